"""Cheating writers: the greatest share of challenges that they can answer."""

from math import comb

from hushpapers.ratios import ratio
from hushpapers.residues import all_rows, raised
from hushpapers.runs import accepts, mimic, run_of
from hushpapers.statements import find_witness, holds, tape_length


def success(group, statement, start, table):
    """Return the share of the challenges that the table answers."""
    runs = [(start, challenge, answer) for challenge, answer in enumerate(table)]
    return ratio(len([run for run in runs if accepts(group, statement, run)]), group.order)


def best_share(group, statement):
    """Return the greatest success of all strategies."""
    return (1, 1) if holds(group, statement) else (1, group.order)


def best_strategy(group, statement):
    """Return a start and a table of answers with the greatest success."""
    q = group.order
    tape = (0,) * tape_length(statement)
    witness = find_witness(group, statement)
    if witness is None:
        runs = [mimic(group, statement, 0, tape)] * q
    else:
        runs = [run_of(group, statement, witness, tape, challenge) for challenge in range(q)]
    return runs[0][0], tuple([run[2] for run in runs])


def round_share(q, rounds, need):
    """Return the share of the tuples of residues with 0 at `need` places at least."""
    good = [
        comb(rounds, hits) * raised(q - 1, rounds - hits) for hits in range(max(0, need), rounds + 1)
    ]
    return ratio(sum(good), raised(q, rounds))


def _count_good(group, statements, chain, need):
    """Return how many tuples of challenges lead to at least `need` accepted rounds."""
    if not statements:
        return 1 if need <= 0 else 0
    start, moves = chain
    good = 0
    for challenge, (answer, rest) in enumerate(moves):
        accepted = accepts(group, statements[0], (start, challenge, answer))
        good = good + _count_good(group, statements[1:], rest, need - 1 if accepted else need)
    return good


def chain_success(group, statements, chain, need):
    """Return the share of the tuples of challenges with at least `need` accepted rounds."""
    return ratio(_count_good(group, statements, chain, need), raised(group.order, len(statements)))


def chain_share(group, statements, need):
    """Return the bound on the success of all chains."""
    true = len([1 for statement in statements if holds(group, statement)])
    return round_share(group.order, len(statements) - true, need - true)


def best_chain(group, statements):
    """Return a chain that has the greatest success for every need at once."""
    chain = ()
    for statement in reversed(statements):
        start, table = best_strategy(group, statement)
        chain = (start, tuple([(answer, chain) for answer in table]))
    return chain


def _count_accepted(group, statements, starts, challenges, answers):
    """Return the number of accepted rounds."""
    runs = list(zip(starts, challenges, answers))
    return len([1 for statement, run in zip(statements, runs) if accepts(group, statement, run)])


def side_success(group, statements, starts, table, need):
    """Return the share of the tuples of challenges with at least `need` accepted rounds."""
    many = len(statements)
    good = 0
    for challenges, answers in zip(all_rows(group.order, many), table):
        if _count_accepted(group, statements, starts, challenges, answers) >= need:
            good = good + 1
    return ratio(good, raised(group.order, many))
