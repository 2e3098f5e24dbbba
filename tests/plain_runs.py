"""The words of the document about runs taken literally, by trying everything."""

import itertools
import random

from hushpapers.statements import at_least, leaf, leaf_count
from tests.plain_statements import is_witness
from tests.samples import plain_combine, plain_power, rows_of, small_groups


def own_count(statement):
    return len(statement[2]) - statement[1]


def plain_length(statement):
    """Return the length of the tapes."""
    if statement[0] == "rows":
        return statement[1]
    return own_count(statement) + sum(plain_length(kid) for kid in statement[2])


def plain_value(q, coefficients, x):
    return sum(c * x ** power for power, c in enumerate(coefficients)) % q


def plain_share_rows(q, many, need, challenge):
    """Return all share rows: the values at 1, 2, .. of all polynomials that are the challenge at 0."""
    return [
        tuple(plain_value(q, (challenge, *rest), place) for place in range(1, many + 1))
        for rest in rows_of(q, many - need)
    ]


def pinned_row(q, many, need, challenge, pinned):
    """Return the only share row that has these shares, given as a dict from places from 0."""
    found = [
        row for row in plain_share_rows(q, many, need, challenge)
        if all(row[place] == share for place, share in pinned.items())
    ]
    assert len(found) == 1
    return found[0]


def leaf_accepts(group, statement, start, challenge, answer):
    _, _, matrix, targets = statement
    return all(
        plain_combine(group, row, answer) == group.multiply(sent, plain_power(group, target, challenge))
        for row, sent, target in zip(matrix, start, targets, strict=True)
    )


def plain_accepts(group, statement, start, challenge, answer):
    """Tell whether a run whose parts have the right form is accepted."""
    if statement[0] == "rows":
        return leaf_accepts(group, statement, start, challenge, answer)
    _, need, kids = statement
    shares, answers = answer
    return shares in plain_share_rows(group.order, len(kids), need, challenge) and all(
        plain_accepts(group, *one) for one in zip(kids, start, shares, answers, strict=True)
    )


def all_starts(group, statement):
    if statement[0] == "rows":
        return list(itertools.product(group.members, repeat=len(statement[2])))
    return list(itertools.product(*[all_starts(group, kid) for kid in statement[2]]))


def accepted_answers(group, statement, start, challenge):
    """Return all answers that are accepted."""
    if statement[0] == "rows":
        return [
            answer for answer in rows_of(group.order, statement[1])
            if leaf_accepts(group, statement, start, challenge, answer)
        ]
    _, need, kids = statement
    found = []
    for shares in plain_share_rows(group.order, len(kids), need, challenge):
        choices = [accepted_answers(group, *one) for one in zip(kids, start, shares, strict=True)]
        found += [(shares, answers) for answers in itertools.product(*choices)]
    return found


def plain_mimic(group, statement, challenge, tape):
    """Return start and answer as point [21] makes them."""
    q = group.order
    if statement[0] == "rows":
        _, _, matrix, targets = statement
        start = tuple(
            group.multiply(plain_combine(group, row, tape), plain_power(group, target, -challenge % q))
            for row, target in zip(matrix, targets, strict=True)
        )
        return start, tape
    _, need, kids = statement
    own = own_count(statement)
    shares = pinned_row(q, len(kids), need, challenge, dict(enumerate(tape[:own])))
    starts, answers, at = [], [], own
    for kid, share in zip(kids, shares, strict=True):
        end = at + plain_length(kid)
        start, answer = plain_mimic(group, kid, share, tape[at:end])
        starts.append(start)
        answers.append(answer)
        at = end
    return tuple(starts), (shares, tuple(answers))


def plain_honest(group, statement, witness, tape, challenge):
    """Return start and answer as point [22] makes them."""
    q = group.order
    if statement[0] == "rows":
        start = tuple(plain_combine(group, row, tape) for row in statement[2])
        return start, tuple((r + challenge * x) % q for r, x in zip(tape, witness, strict=True))
    _, need, kids = statement
    active = [place for place, item in enumerate(witness) if item is not None][:need]
    passive = [place for place in range(len(kids)) if place not in active]
    own = own_count(statement)
    pinned = dict(zip(passive, tape[:own], strict=True))
    shares = pinned_row(q, len(kids), need, challenge, pinned)
    starts, answers, at = [], [], own
    for place, kid in enumerate(kids):
        end = at + plain_length(kid)
        if place in active:
            start, answer = plain_honest(group, kid, witness[place], tape[at:end], shares[place])
        else:
            start, answer = plain_mimic(group, kid, shares[place], tape[at:end])
        starts.append(start)
        answers.append(answer)
        at = end
    return tuple(starts), (shares, tuple(answers))


def count_starts_of(group, statement):
    if statement[0] == "rows":
        return group.order ** len(statement[2])
    product = 1
    for kid in statement[2]:
        product *= count_starts_of(group, kid)
    return product


def lively_leaf(numbers, group):
    """Return a leaf; many do not hold, and many are without columns or rows."""
    width = numbers.choice((0, 1, 1, 1, 2))
    many = numbers.choice((0, 1, 1, 2))
    entries = (group.unit, group.unit, *group.members)
    matrix = tuple(tuple(numbers.choice(entries) for _ in range(width)) for _ in range(many))
    x = tuple(numbers.randrange(group.order) for _ in range(width))
    targets = tuple(plain_combine(group, row, x) for row in matrix)
    if numbers.randrange(2):
        targets = tuple(numbers.choice(group.members) for _ in range(many))
    return leaf(group, width, matrix, targets)


def lively_statement(numbers, group, levels=3):
    if levels == 1 or levels == 2 and numbers.randrange(3):
        return lively_leaf(numbers, group)
    many = numbers.choice((0, 1, 2, 2, 3, 3, 4))
    kids = tuple(lively_statement(numbers, group, levels - 1) for _ in range(many))
    need = numbers.randrange(many + 1) if many < group.order else many
    return at_least(group, need, kids)


def small_statements(seed, many, most_tapes=700, most_starts=10 ** 9):
    """Yield random statements with few tapes and few starts, each with its group."""
    numbers = random.Random(seed)
    groups = small_groups()
    found = 0
    while found < many:
        group = numbers.choice(groups)
        statement = lively_statement(numbers, group, numbers.choice((1, 2, 3, 3, 3, 4, 4, 4)))
        if leaf_count(statement) < 2 and numbers.randrange(4):
            continue
        if group.order ** plain_length(statement) > most_tapes:
            continue
        if count_starts_of(group, statement) <= most_starts:
            found += 1
            yield group, statement


def random_tape(numbers, group, statement):
    return tuple(numbers.randrange(group.order) for _ in range(plain_length(statement)))


def random_witness(numbers, group, statement):
    """Return a witness, often with more items than are needed, or None if there is none."""
    if statement[0] == "rows":
        solutions = [x for x in rows_of(group.order, statement[1]) if is_witness(group, statement, x)]
        return numbers.choice(solutions) if solutions else None
    items = [random_witness(numbers, group, kid) for kid in statement[2]]
    given = [place for place, item in enumerate(items) if item is not None]
    if len(given) < statement[1]:
        return None
    numbers.shuffle(given)
    for place in given[numbers.randint(statement[1], len(given)):]:
        items[place] = None
    return tuple(items)


def places_in(value, path=()):
    """Yield the path of each part of a nested tuple, the whole first."""
    yield path
    if isinstance(value, tuple):
        for at, item in enumerate(value):
            yield from places_in(item, (*path, at))


def part_at(value, path):
    for at in path:
        value = value[at]
    return value


def with_part(value, path, part):
    """Return the nested tuple with another part at the path."""
    if not path:
        return part
    at = path[0]
    return (*value[:at], with_part(value[at], path[1:], part), *value[at + 1:])
