"""Statements about members of a group, and their witnesses."""

from hushpapers.errors import BadStatement
from hushpapers.linear import rank, solve
from hushpapers.residues import is_residue_row, is_tuple_of, raised

LARGEST_LEAF = 64
LARGEST_NODE = 64
LARGEST_DEPTH = 7
MOST_LEAVES_FOR_WAYS = 10


def is_leaf(statement):
    """Tell whether the statement is a leaf."""
    return statement[0] == "rows"


def is_member_row(group, length, value):
    """Tell whether the value, of any form, is a tuple of `length` members."""
    return is_tuple_of(length, value) and all([group.has(item) for item in value])


def leaf(group, width, matrix, targets):
    """Return the leaf with these rows and targets."""
    if not isinstance(matrix, tuple) or len(matrix) > LARGEST_LEAF:
        raise BadStatement()
    if not 0 <= width <= LARGEST_LEAF or not is_member_row(group, len(matrix), targets):
        raise BadStatement()
    if not all([is_member_row(group, width, row) for row in matrix]):
        raise BadStatement()
    return ("rows", width, matrix, targets)


def at_least(group, need, kids):
    """Return the node that holds if at least `need` of the kids hold."""
    many = len(kids)
    if many > LARGEST_NODE or not 0 <= need <= many:
        raise BadStatement()
    if need < many and many >= group.order:
        raise BadStatement()
    node = ("some", need, kids)
    if depth(node) > LARGEST_DEPTH:
        raise BadStatement()
    return node


def every(group, kids):
    """Return the node that holds if all kids hold."""
    return at_least(group, len(kids), kids)


def either(group, kids):
    """Return the node that holds if one of the kids holds."""
    return at_least(group, 1, kids)


def depth(statement):
    """Return the number of levels of the statement."""
    if is_leaf(statement):
        return 1
    return 1 + max([depth(kid) for kid in statement[2]], default=0)


def leaf_count(statement):
    """Return the number of leaves."""
    if is_leaf(statement):
        return 1
    return sum([leaf_count(kid) for kid in statement[2]])


def tape_length(statement):
    """Return the number of residues that a writer chooses for the statement."""
    if is_leaf(statement):
        return statement[1]
    _, need, kids = statement
    return len(kids) - need + sum([tape_length(kid) for kid in kids])


def _log_rows(group, statement):
    """Return the logarithms of a leaf's matrix."""
    return tuple([group.exponents_of(row) for row in statement[2]])


def leaf_freedom(group, statement):
    """Return the width of a leaf minus the rank of its rows."""
    width = statement[1]
    return width - rank(group.order, width, _log_rows(group, statement))


def solve_leaf(group, statement):
    """Return the solution that is 0 in all free columns, or None."""
    targets = group.exponents_of(statement[3])
    return solve(group.order, statement[1], _log_rows(group, statement), targets)


def holds(group, statement):
    """Tell whether the statement has a witness."""
    if is_leaf(statement):
        return solve_leaf(group, statement) is not None
    _, need, kids = statement
    return sum([1 for kid in kids if holds(group, kid)]) >= need


def _is_solution(group, statement, witness):
    """Tell whether something of any form is a solution of a leaf."""
    _, width, matrix, targets = statement
    if not is_residue_row(group.order, width, witness):
        return False
    return all([group.combine(row, witness) == target for row, target in zip(matrix, targets)])


def fits(group, statement, witness):
    """Tell whether something of any form is a witness of the statement."""
    if is_leaf(statement):
        return _is_solution(group, statement, witness)
    _, need, kids = statement
    if not is_tuple_of(len(kids), witness):
        return False
    given = [(kid, item) for kid, item in zip(kids, witness) if item is not None]
    return len(given) >= need and all([fits(group, kid, item) for kid, item in given])


def find_witness(group, statement):
    """Return the witness with the first kids that hold, or None."""
    if is_leaf(statement):
        return solve_leaf(group, statement)
    _, need, kids = statement
    witness = [None] * len(kids)
    missing = need
    for at, kid in enumerate(kids):
        if missing > 0:
            witness[at] = find_witness(group, kid)
            missing = missing - (0 if witness[at] is None else 1)
    return tuple(witness) if missing == 0 else None


def count_witnesses(group, statement):
    """Return the number of witnesses that fit."""
    if is_leaf(statement):
        if not holds(group, statement):
            return 0
        return raised(group.order, leaf_freedom(group, statement))
    _, need, kids = statement
    # Item j counts the choices for the kids so far that leave j items not None.
    counts = [1]
    for kid in kids:
        many = count_witnesses(group, kid)
        counts = [same + many * fewer for same, fewer in zip([*counts, 0], [0, *counts])]
    return sum(counts[need:])


def active_places(statement, witness):
    """Return the places, from 0, of the active kids of a node."""
    given = [at for at, item in enumerate(witness) if item is not None]
    return given[:statement[1]]


def active_part(statement, witness):
    """Return the witness without the items of all passive kids."""
    if is_leaf(statement):
        return witness
    kids = statement[2]
    part = [None] * len(kids)
    for at in active_places(statement, witness):
        part[at] = active_part(kids[at], witness[at])
    return tuple(part)


def _is_in(number, mask):
    """Tell whether the bit of a leaf's number is set in the mask."""
    return (mask >> number) % 2 == 1


def _numbered(statement, first):
    """Return the statement with its leaves' numbers, counted from `first`, as leaves."""
    if is_leaf(statement):
        return first
    _, need, kids = statement
    numbered_kids = []
    for kid in kids:
        numbered_kids.append(_numbered(kid, first))
        first = first + leaf_count(kid)
    return (need, tuple(numbered_kids))


def _holds_with(numbered, mask):
    """Tell whether it is enough that the leaves whose bits are in the mask hold."""
    if isinstance(numbered, int):
        return _is_in(numbered, mask)
    need, kids = numbered
    return sum([1 for kid in kids if _holds_with(kid, mask)]) >= need


def ways(statement):
    """Return all ways in which leaves make the statement hold."""
    many = leaf_count(statement)
    if many > MOST_LEAVES_FOR_WAYS:
        raise BadStatement()
    numbered = _numbered(statement, 0)
    enough = [_holds_with(numbered, mask) for mask in range(1 << many)]
    found = []
    for mask in range(1 << many):
        way = tuple([number for number in range(many) if _is_in(number, mask)])
        # More leaves never harm, so it suffices to leave out one at a time.
        if enough[mask] and not any([enough[mask - (1 << number)] for number in way]):
            found.append(way)
    return tuple(sorted(found))
