"""Statements, a run and wrong values that the tests of runs share."""

from hushpapers.groups import PowerGroup
from hushpapers.statements import at_least, either, every, leaf
from tests.samples import table_group

G3 = PowerGroup(7, 3)
G5 = PowerGroup(11, 5)
T5 = table_group((3, 1, 4, 0, 2))
G7 = PowerGroup(29, 7)
G127 = PowerGroup(509, 127)
EXAMPLE = either(G5, (leaf(G5, 1, ((9,),), (9,)), leaf(G5, 1, ((9,),), (3,))))
RUN = (((4,), (9,)), 3, ((2, 1), ((4,), (4,))))


def deep(levels, inner=()):
    value = inner
    for _ in range(levels):
        value = (value,)
    return value


WRONG = (
    None, (), ((),), (None,), 0, 1, 3, -1, 4, 5, 11, 10 ** 59, -10 ** 59, (0,), (1,), (3,), (3, 3), (1, 1, 1),
    ((1,),), ((1,), (1,)), ((1, 1), ((1,), (1,))), deep(19), deep(19, 3), deep(17, (1, 2, 3)),
)


def edge_statements(group):
    """Return statements at the edges that the document names."""
    b = group.generator
    unit = group.unit
    square = group.multiply(b, b)
    true = leaf(group, 1, ((b,),), (square,))
    false = leaf(group, 1, ((unit,),), (b,))
    empty = leaf(group, 0, (), ())
    wide = leaf(group, 2, (), ())
    nothing = leaf(group, 0, ((), ()), (unit, b))
    equal_rows = leaf(group, 2, ((b, square), (b, square)), (b, b))
    unequal = leaf(group, 1, ((b,), (b,)), (b, square))
    kids = (true, false, empty)[:group.order - 1]
    return (
        true, false, empty, wide, nothing, equal_rows, unequal,
        every(group, ()), at_least(group, 0, kids[:2]), at_least(group, 0, (nothing,)),
        every(group, (true, empty, true)), every(group, (false, true)), either(group, kids),
        every(group, (true,) * group.order), either(group, (false, nothing)),
        either(group, (every(group, (false, true)), every(group, (true, at_least(group, 0, (false,)))))),
    )
