"""Papers: runs whose challenge follows from their own start and from a note."""

from hushpapers.counting import mimic_runs
from hushpapers.errors import BadText
from hushpapers.notation import digest, plain_statement, read_nested, write_nested
from hushpapers.residues import is_tuple_of
from hushpapers.runs import accepts, begin, extract, respond


def challenge_for(q, statement, start, note):
    """Return the challenge that the start and the note demand."""
    written = write_nested((plain_statement(statement), start))
    return digest(f"{written} {note}", q)


def write_paper(group, statement, witness, tape, note):
    """Return the honest paper."""
    start = begin(group, statement, witness, tape)
    challenge = challenge_for(group.order, statement, start, note)
    return write_nested((start, respond(group, statement, witness, tape, challenge)))


def _run_told(group, statement, note, text):
    """Return the run that the text tells, accepted or not, or None if it tells no run."""
    try:
        value = read_nested(text)
    except BadText:
        return None
    if not is_tuple_of(2, value):
        return None
    start, answer = value
    return start, challenge_for(group.order, statement, start, note), answer


def judge_paper(group, statement, note, text):
    """Tell whether the text is an accepted paper under the note."""
    return accepts(group, statement, _run_told(group, statement, note, text))


def _forged_runs(group, statement, note):
    """Yield, in the order of kept_runs, the mimicked runs that make a paper."""
    q = group.order
    for challenge in range(q):
        for run in mimic_runs(group, statement, challenge):
            if challenge_for(q, statement, run[0], note) == challenge:
                yield run


def count_papers(group, statement, note):
    """Return the number of accepted papers under the note."""
    # Each accepted run is mimicked from exactly one tape.
    return sum([1 for _ in _forged_runs(group, statement, note)])


def forge_paper(group, statement, note):
    """Return the first paper that can be mimicked, or None."""
    for start, _, answer in _forged_runs(group, statement, note):
        return write_nested((start, answer))
    return None


def draw_from_papers(group, statement, first_note, first, second_note, second):
    """Return the witness that two papers with one start reveal."""
    first_run = _run_told(group, statement, first_note, first)
    second_run = _run_told(group, statement, second_note, second)
    return extract(group, statement, first_run, second_run)
