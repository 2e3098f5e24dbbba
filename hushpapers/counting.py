"""Counts of answers, starts and runs."""

from hushpapers.residues import all_rows, raised
from hushpapers.runs import answerable, begin, mimic, run_of
from hushpapers.statements import holds, is_leaf, leaf_freedom, tape_length


def freedom(group, statement):
    """Return how many numbers of an answer the start and the challenge leave free."""
    if is_leaf(statement):
        return leaf_freedom(group, statement)
    _, need, kids = statement
    failing = len([1 for kid in kids if not holds(group, kid)])
    return max(0, len(kids) - need - failing) + sum([freedom(group, kid) for kid in kids])


def count_answers(group, statement, start, challenge):
    """Return the number of answers that are accepted for the start and the challenge."""
    if challenge not in answerable(group, statement, start):
        return 0
    return raised(group.order, freedom(group, statement))


def count_starts(group, statement):
    """Return the number of starts that can be answered for some challenge."""
    fixed = tape_length(statement) - freedom(group, statement)
    return raised(group.order, fixed if holds(group, statement) else fixed + 1)


def mimic_runs(group, statement, challenge):
    """Yield the mimicked run of each tape in ascending order."""
    length = tape_length(statement)
    for tape in all_rows(group.order, length):
        yield mimic(group, statement, challenge, tape)


def honest_runs(group, statement, witness, judge):
    """Return the honest run of each tape, with the challenge of the judge."""
    length = tape_length(statement)
    runs = []
    for tape in all_rows(group.order, length):
        start = begin(group, statement, witness, tape)
        runs.append(run_of(group, statement, witness, tape, judge.get(start, 0)))
    return tuple(runs)


def kept_runs(group, statement, judge):
    """Return the mimicked runs whose challenge is the judge's for their start."""
    kept = []
    for challenge in range(group.order):
        for run in mimic_runs(group, statement, challenge):
            if judge.get(run[0], 0) == challenge:
                kept.append(run)
    return tuple(kept)
