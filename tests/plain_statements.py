"""Statements made at random, and the words of the document about them taken literally."""

import itertools

from hushpapers.statements import at_least, leaf
from tests.samples import plain_combine, rows_of


def random_leaf(numbers, group, most_width=2, most_rows=2):
    """Return a leaf; about half of the rows' targets are made to hold."""
    width = numbers.randrange(most_width + 1)
    many = numbers.randrange(most_rows + 1)
    matrix = tuple(
        tuple(numbers.choice((group.unit, *group.members)) for _ in range(width)) for _ in range(many)
    )
    if numbers.randrange(2):
        x = tuple(numbers.randrange(group.order) for _ in range(width))
        targets = tuple(plain_combine(group, row, x) for row in matrix)
    else:
        targets = tuple(numbers.choice(group.members) for _ in range(many))
    return leaf(group, width, matrix, targets)


def random_statement(numbers, group, levels=3, most_kids=3):
    if levels == 1 or numbers.randrange(3) == 0:
        return random_leaf(numbers, group)
    many = numbers.randrange(most_kids + 1)
    kids = tuple(random_statement(numbers, group, levels - 1, most_kids) for _ in range(many))
    need = numbers.randrange(many + 1) if many < group.order else many
    return at_least(group, need, kids)


def rebuilt(statement):
    """Return an equal statement that shares no tuple and no text with the given one."""
    if isinstance(statement, tuple):
        return tuple([rebuilt(item) for item in statement])
    return "".join(list(statement)) if isinstance(statement, str) else statement


def is_solution(group, statement, x):
    _, _, matrix, targets = statement
    return all(plain_combine(group, row, x) == target for row, target in zip(matrix, targets, strict=True))


def all_candidates(group, statement):
    """Return everything that has the form of a witness, whether it is one or not."""
    if statement[0] == "rows":
        return rows_of(group.order, statement[1])
    choices = [[None, *all_candidates(group, kid)] for kid in statement[2]]
    return list(itertools.product(*choices))


def is_witness(group, statement, candidate):
    """Tell whether something of the right form is a witness."""
    if statement[0] == "rows":
        return is_solution(group, statement, candidate)
    _, need, kids = statement
    given = [(kid, item) for kid, item in zip(kids, candidate, strict=True) if item is not None]
    return len(given) >= need and all(is_witness(group, kid, item) for kid, item in given)


def all_witnesses(group, statement):
    """Return all witnesses, found by trying."""
    if statement[0] == "rows":
        return [x for x in rows_of(group.order, statement[1]) if is_solution(group, statement, x)]
    choices = [[None, *all_witnesses(group, kid)] for kid in statement[2]]
    return [
        items for items in itertools.product(*choices)
        if sum(item is not None for item in items) >= statement[1]
    ]


def plain_holds(group, statement):
    if statement[0] == "rows":
        return len(all_witnesses(group, statement)) > 0
    return sum(plain_holds(group, kid) for kid in statement[2]) >= statement[1]


def leaves_of(statement):
    if statement[0] == "rows":
        return [statement]
    return [one for kid in statement[2] for one in leaves_of(kid)]


def truth(statement, values):
    """Tell whether the statement holds if its leaves, from left to right, have these values."""
    if statement[0] == "rows":
        return values[0]
    held, at = 0, 0
    for kid in statement[2]:
        many = len(leaves_of(kid))
        held += truth(kid, values[at:at + many])
        at += many
    return held >= statement[1]


def plain_ways(statement):
    """Return all ways, by trying all tuples of leaves and all their parts."""
    many = len(leaves_of(statement))
    enough = []
    for size in range(many + 1):
        for chosen in itertools.combinations(range(many), size):
            if truth(statement, [number in chosen for number in range(many)]):
                if not any(set(less) < set(chosen) for less in enough):
                    enough.append(chosen)
    return tuple(sorted(enough))
