"""Runs: the start of a writer, the challenge of a judge, and the answer."""

from hushpapers.errors import (
    BadChallenge, BadTape, BadWitness, DifferentStarts, NotAccepted, SameChallenge, WrongCoin,
)
from hushpapers.linear import reduced
from hushpapers.residues import (
    interpolate, inverse, is_residue, is_residue_row, is_share_row, is_tuple_of, share_row, value_at,
)
from hushpapers.statements import active_places, fits, is_leaf, is_member_row, tape_length


def _accepts_leaf(group, statement, run):
    """Tell whether a run of a leaf, with a residue as its challenge, is accepted."""
    _, width, matrix, targets = statement
    start, challenge, answer = run
    if not is_member_row(group, len(matrix), start):
        return False
    if not is_residue_row(group.order, width, answer):
        return False
    return all([
        group.combine(row, answer) == group.combine((sent, target), (1, challenge))
        for row, sent, target in zip(matrix, start, targets)
    ])


def _accepts_node(group, statement, run):
    """Tell whether a run of a node, with a residue as its challenge, is accepted."""
    _, need, kids = statement
    start, challenge, answer = run
    many = len(kids)
    if not is_tuple_of(many, start) or not is_tuple_of(2, answer):
        return False
    shares, answers = answer
    if not is_residue_row(group.order, many, shares) or not is_tuple_of(many, answers):
        return False
    if not is_share_row(group.order, need, challenge, shares):
        return False
    runs = list(zip(start, shares, answers))
    return all([accepts(group, kid, kid_run) for kid, kid_run in zip(kids, runs)])


def accepts(group, statement, run):
    """Tell whether a run, of any form, is accepted."""
    if not is_tuple_of(3, run) or not is_residue(group.order, run[1]):
        return False
    if is_leaf(statement):
        return _accepts_leaf(group, statement, run)
    return _accepts_node(group, statement, run)


def _check_witness(group, statement, witness):
    if not fits(group, statement, witness):
        raise BadWitness()


def _check_tape(group, statement, tape):
    if not is_residue_row(group.order, tape_length(statement), tape):
        raise BadTape()


def _check_challenge(group, challenge):
    if not is_residue(group.order, challenge):
        raise BadChallenge()


def _check_run(group, statement, run):
    if not accepts(group, statement, run):
        raise NotAccepted()


def check_coin(run, coin):
    """Raise WrongCoin unless the challenge of the run is the coin."""
    if not is_tuple_of(3, run) or run[1] != coin:
        raise WrongCoin()


def _cut(statement, tape):
    """Return the own numbers of a node, and the parts of the tape for its kids."""
    _, need, kids = statement
    at = len(kids) - need
    own = tape[:at]
    parts = []
    for kid in kids:
        end = at + tape_length(kid)
        parts.append(tape[at:end])
        at = end
    return own, parts


def _shares_with(group, statement, challenge, places, own):
    """Return the share row of a node with its own numbers at these places, from 0."""
    pinned = [(place + 1, share) for place, share in zip(places, own)]
    return share_row(group.order, len(statement[2]), statement[1], challenge, tuple(pinned))


def _leaf_start(group, statement, challenge, tape):
    """Return the start of a leaf for which the tape answers the challenge."""
    _, _, matrix, targets = statement
    return tuple([
        group.combine((*row, target), (*tape, -challenge)) for row, target in zip(matrix, targets)
    ])


def _joined(shares, made):
    """Return the start and the answer of a node, made of those of its kids."""
    starts = tuple([start for start, answer in made])
    answers = tuple([answer for start, answer in made])
    return starts, (shares, answers)


def _mimicked(group, statement, challenge, tape):
    """Return a start and an answer that are accepted for the challenge."""
    if is_leaf(statement):
        return _leaf_start(group, statement, challenge, tape), tape
    own, parts = _cut(statement, tape)
    shares = _shares_with(group, statement, challenge, list(range(len(own))), own)
    made = [
        _mimicked(group, kid, share, part)
        for kid, share, part in zip(statement[2], shares, parts)
    ]
    return _joined(shares, made)


def mimic(group, statement, challenge, tape):
    """Return the run that the tape gives for a challenge known beforehand."""
    _check_challenge(group, challenge)
    _check_tape(group, statement, tape)
    start, answer = _mimicked(group, statement, challenge, tape)
    return start, challenge, answer


def _passive_places(statement, witness):
    """Return the places, from 0, of the passive kids of a node."""
    active = active_places(statement, witness)
    return [at for at in range(len(witness)) if at not in active]


def _written(group, statement, witness, tape, challenge):
    """Return the honest start, which is the same for each challenge, and the answer."""
    if is_leaf(statement):
        answer = [(r + challenge * x) % group.order for r, x in zip(tape, witness)]
        return _leaf_start(group, statement, 0, tape), tuple(answer)
    own, parts = _cut(statement, tape)
    passive = _passive_places(statement, witness)
    shares = _shares_with(group, statement, challenge, passive, own)
    made = []
    for at, kid in enumerate(statement[2]):
        if at in passive:
            made.append(_mimicked(group, kid, shares[at], parts[at]))
        else:
            made.append(_written(group, kid, witness[at], parts[at], shares[at]))
    return _joined(shares, made)


def begin(group, statement, witness, tape):
    """Return the start of the honest writer."""
    _check_witness(group, statement, witness)
    _check_tape(group, statement, tape)
    return _written(group, statement, witness, tape, 0)[0]


def run_of(group, statement, witness, tape, challenge):
    """Return the run of the honest writer."""
    _check_witness(group, statement, witness)
    _check_tape(group, statement, tape)
    _check_challenge(group, challenge)
    start, answer = _written(group, statement, witness, tape, challenge)
    return start, challenge, answer


def respond(group, statement, witness, tape, challenge):
    """Return the answer of the honest writer."""
    return run_of(group, statement, witness, tape, challenge)[2]


def _tape_of_mimic(statement, answer):
    """Return the tape from which an accepted answer is mimicked."""
    if is_leaf(statement):
        return answer
    _, need, kids = statement
    shares, answers = answer
    tape = list(shares[:len(kids) - need])
    for kid, kid_answer in zip(kids, answers):
        tape.extend(_tape_of_mimic(kid, kid_answer))
    return tuple(tape)


def mimic_tape(group, statement, run):
    """Return the only tape from which mimic makes the run."""
    _check_run(group, statement, run)
    return _tape_of_mimic(statement, run[2])


def _tape_of_writer(group, statement, witness, challenge, answer):
    """Return the tape from which the honest writer makes an accepted answer."""
    if is_leaf(statement):
        return tuple([(z - challenge * x) % group.order for z, x in zip(answer, witness)])
    shares, answers = answer
    passive = _passive_places(statement, witness)
    tape = [shares[at] for at in passive]
    for at, kid in enumerate(statement[2]):
        if at in passive:
            tape.extend(_tape_of_mimic(kid, answers[at]))
        else:
            tape.extend(_tape_of_writer(group, kid, witness[at], shares[at], answers[at]))
    return tuple(tape)


def matching_tape(group, statement, witness, run):
    """Return the only tape from which the honest writer with the witness makes the run."""
    _check_witness(group, statement, witness)
    _check_run(group, statement, run)
    return _tape_of_writer(group, statement, witness, run[1], run[2])


def _extracted(group, statement, first, second):
    """Return the witness from the challenge and answer of two runs with one start."""
    challenge, answer = first
    other_challenge, other_answer = second
    if is_leaf(statement):
        scale = inverse(challenge - other_challenge, group.order)
        return tuple([(z - other) * scale % group.order for z, other in zip(answer, other_answer)])
    found = []
    for at, kid in enumerate(statement[2]):
        one = (answer[0][at], answer[1][at])
        other = (other_answer[0][at], other_answer[1][at])
        found.append(None if one[0] == other[0] else _extracted(group, kid, one, other))
    return tuple(found)


def extract(group, statement, first, second):
    """Return the witness that two runs with one start reveal."""
    _check_run(group, statement, first)
    _check_run(group, statement, second)
    if first[0] != second[0]:
        raise DifferentStarts()
    if first[1] == second[1]:
        raise SameChallenge()
    return _extracted(group, statement, first[1:], second[1:])


def _answerable_leaf(group, statement, start):
    """Return the challenges for which A_i * T_i ** c can be reached in all rows."""
    _, width, matrix, targets = statement
    q = group.order
    rows = [
        group.exponents_of((*row, target, sent)) for row, target, sent in zip(matrix, targets, start)
    ]
    # Below the columns of the matrix remain the conditions on c alone:
    # (1, a) says c + a = 0, and (0, 1) says that nothing can be reached.
    conditions = [row[width:] for row in reduced(q, width + 2, rows) if not any(row[:width])]
    if (0, 1) in conditions:
        return ()
    if conditions:
        return (-conditions[0][1] % q,)
    return tuple(range(q))


def _pinned_challenge(q, need, many, points):
    """Return the challenges that have a share row through more points than can be pinned."""
    coefficients = interpolate(tuple(points[:many - need + 1]), q)
    if all([value_at(coefficients, place, q) == share for place, share in points]):
        return (coefficients[0],)
    return ()


def answerable(group, statement, start):
    """Return the challenges for which some answer to the start is accepted."""
    if is_leaf(statement):
        return _answerable_leaf(group, statement, start)
    _, need, kids = statement
    choices = [answerable(group, kid, sent) for kid, sent in zip(kids, start)]
    if () in choices:
        return ()
    points = [(place, choice[0]) for place, choice in enumerate(choices, start=1) if len(choice) == 1]
    if len(points) <= len(kids) - need:
        return tuple(range(group.order))
    return _pinned_challenge(group.order, need, len(kids), points)
