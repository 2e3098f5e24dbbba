import random
import unittest

from hushpapers.errors import BadStatement
from hushpapers.groups import PowerGroup
from hushpapers.statements import (
    at_least, depth, either, every, holds, leaf, leaf_count, tape_length, ways,
)
from tests.plain_statements import (
    all_witnesses, leaves_of, plain_holds, plain_ways, random_statement, rebuilt, truth,
)
from tests.samples import WRONG_FORMS, raised_by, small_groups, table_group

G5 = PowerGroup(11, 5)
G3 = PowerGroup(7, 3)
G127 = PowerGroup(509, 127)
TRUE = leaf(G5, 0, (), ())
FALSE = leaf(G5, 0, ((),), (3,))
ANY = leaf(G5, 1, (), ())


def nested(group, levels, inner=None):
    """Return a statement of so many levels, with one kid at each node."""
    statement = leaf(group, 0, (), ()) if inner is None else inner
    for _ in range(levels - 1):
        statement = every(group, (statement,))
    return statement


class Leaves(unittest.TestCase):
    def test_built(self):
        self.assertEqual(leaf(G5, 1, ((9,),), (3,)), ("rows", 1, ((9,),), (3,)))
        self.assertEqual(leaf(G5, 0, (), ()), ("rows", 0, (), ()))
        self.assertEqual(leaf(G5, 3, (), ()), ("rows", 3, (), ()))
        self.assertEqual(leaf(G5, 0, ((), ()), (1, 4)), ("rows", 0, ((), ()), (1, 4)))
        self.assertEqual(leaf(matrix=((1, 3), (4, 5)), width=2, targets=(9, 1), group=G5),
                         ("rows", 2, ((1, 3), (4, 5)), (9, 1)))

    def test_every_member_may_stand(self):
        for group in small_groups():
            row = group.members
            statement = leaf(group, len(row), (row, row), (row[0], row[-1]))
            self.assertEqual(statement, ("rows", len(row), (row, row), (row[0], row[-1])))

    def test_width_and_rows_to_64(self):
        row = (3,) * 64
        self.assertEqual(leaf(G5, 64, (row,), (1,)), ("rows", 64, (row,), (1,)))
        self.assertEqual(leaf(G5, 64, (row,) * 64, (1,) * 64)[2], (row,) * 64)
        self.assertEqual(leaf(G5, 64, (), ()), ("rows", 64, (), ()))
        self.assertEqual(leaf(G5, 0, ((),) * 64, (1,) * 64)[1], 0)
        self.refused(65, ((3,) * 65,), (1,))
        self.refused(65, (), ())
        self.refused(66, (), ())
        self.refused(0, ((),) * 65, (1,) * 65)
        self.refused(1, ((3,),) * 65, (1,) * 65)
        self.refused(64, (row,) * 65, (1,) * 65)
        self.refused(10 ** 59, (), ())
        self.refused(10 ** 59, ((3,),), (1,))

    def test_width_below_zero(self):
        self.refused(-1, (), ())
        self.refused(-1, ((),), (1,))
        self.refused(-1, ((3,),), (1,))
        self.refused(-10 ** 59, (), ())

    def test_rows_of_another_width(self):
        good = (3, 4)
        for wrong in ((), (3,), (3, 4, 5), (3, 4, 1)):
            self.refused(2, (wrong,), (1,))
            self.refused(2, (wrong, good), (1, 1))
            self.refused(2, (good, good, wrong), (1, 1, 1))
        self.refused(0, ((1,),), (1,))
        self.refused(1, ((),), (1,))

    def test_number_of_targets(self):
        for many in range(0, 4):
            for targets in range(0, 5):
                raised = raised_by(leaf, G5, 1, ((3,),) * many, (1,) * targets)
                self.assertEqual(raised, None if many == targets else BadStatement)

    def test_entries_and_targets_that_are_no_members(self):
        for group in (*small_groups(), G127):
            unit = group.unit
            some = [x for x in (*range(-3, 40), 508, 509, 10 ** 50, -10 ** 50) if x not in group.members]
            for wrong in (*some, (), (unit,), ((),), (unit, unit), ((unit,),)):
                for matrix, targets in (
                    (((wrong, unit), (unit, unit)), (unit, unit)),
                    (((unit, unit), (unit, wrong)), (unit, unit)),
                    (((unit, unit), (unit, unit)), (wrong, unit)),
                    (((unit, unit), (unit, unit)), (unit, wrong)),
                ):
                    self.assertEqual(raised_by(leaf, group, 2, matrix, targets), BadStatement)

    def test_other_forms(self):
        for wrong in (*WRONG_FORMS, 0, 1, 3, (3,), (3, 4), (((3,),),), ((3, 4),)):
            self.refused(1, wrong, (1,))
        for wrong in (0, 1, 3, 10 ** 59, (), ((3,),), ((),), (3, 4), ((((),),),), ((1,), (1,))):
            self.refused(1, ((3,),), wrong)
        for wrong in (3, 1, (), (3, 3), ((3,),), ((),), (((),),)):
            self.refused(1, (wrong,), (1,))
            self.refused(1, ((3,), wrong), (1, 1))
        self.refused(0, 0, ())
        self.refused(0, (), 0)
        self.refused(0, (0,), (1,))
        self.refused(0, ((((),),),), (1,))
        self.refused(0, ((),), ((),))

    def refused(self, width, matrix, targets):
        self.assertEqual(raised_by(leaf, G5, width, matrix, targets), BadStatement)


class Nodes(unittest.TestCase):
    def test_built(self):
        kids = (TRUE, FALSE, ANY)
        for need in range(4):
            self.assertEqual(at_least(G5, need, kids), ("some", need, kids))
        self.assertEqual(every(G5, kids), ("some", 3, kids))
        self.assertEqual(either(G5, kids), ("some", 1, kids))
        self.assertEqual(either(G5, (ANY,)), ("some", 1, (ANY,)))
        self.assertEqual(at_least(kids=kids, need=2, group=G5), ("some", 2, kids))
        self.assertEqual(every(kids=kids, group=G5), ("some", 3, kids))
        self.assertEqual(either(kids=kids, group=G5), ("some", 1, kids))

    def test_no_kids(self):
        self.assertEqual(every(G5, ()), ("some", 0, ()))
        self.assertEqual(at_least(G5, 0, ()), ("some", 0, ()))
        self.assertEqual(raised_by(either, G5, ()), BadStatement)
        self.assertEqual(raised_by(at_least, G5, 1, ()), BadStatement)

    def test_need(self):
        for many in range(0, 5):
            for need in (*range(-3, 9), 10 ** 59, -10 ** 59):
                raised = raised_by(at_least, G127, need, (TRUE,) * many)
                self.assertEqual(raised, None if 0 <= need <= many else BadStatement)

    def test_number_of_kids(self):
        for group in (G3, G5, PowerGroup(29, 7), G127, PowerGroup(269, 67), PowerGroup(367, 61)):
            q = group.order
            kid = leaf(group, 0, (), ())
            for many in {1, 2, q - 2, q - 1, q, q + 1, 60, 61, 63, 64, 65, 66, 130}:
                kids = (kid,) * many
                self.check(every, (group, kids), many <= 64)
                self.check(at_least, (group, many, kids), many <= 64)
                for need in {0, 1, many // 2, many - 1}:
                    if need < many:
                        self.check(at_least, (group, need, kids), many <= 64 and many < q)
                if many > 1:
                    self.check(either, (group, kids), many <= 64 and many < q)

    def test_depth_to_seven(self):
        for build in (every, either, lambda group, kids: at_least(group, 0, kids)):
            self.assertEqual(depth(build(G5, (nested(G5, 6),))), 7)
            self.check(build, (G5, (nested(G5, 7),)), False)
            self.check(build, (G5, (TRUE, nested(G5, 7), TRUE)), False)
            self.check(build, (G5, (nested(G5, 6), nested(G5, 5), TRUE)), True)
            self.check(build, (G5, (TRUE, nested(G5, 7))), False)
            self.check(build, (G5, (nested(G5, 7), TRUE)), False)
            self.check(build, (G5, (nested(G5, 7, every(G5, ())),)), False)
            self.check(build, (G5, (nested(G5, 6, every(G5, ())),)), True)

    def check(self, build, args, taken):
        self.assertEqual(raised_by(build, *args), None if taken else BadStatement)


class Measures(unittest.TestCase):
    def test_depth(self):
        self.assertEqual(depth(TRUE), 1)
        self.assertEqual(depth(every(G5, ())), 1)
        self.assertEqual(depth(every(G5, (TRUE,))), 2)
        self.assertEqual(depth(every(G5, (every(G5, ()),))), 2)
        for levels in range(1, 8):
            self.assertEqual(depth(nested(G5, levels)), levels)
            self.assertEqual(depth(nested(G5, levels, every(G5, ()))), levels)
        for first in range(1, 7):
            for second in range(1, 7):
                both = every(G5, (nested(G5, first), nested(G5, second)))
                self.assertEqual(depth(both), 1 + max(first, second))

    def test_leaf_count(self):
        self.assertEqual(leaf_count(TRUE), 1)
        self.assertEqual(leaf_count(every(G5, ())), 0)
        self.assertEqual(leaf_count(every(G5, (TRUE, TRUE, every(G5, ()), either(G5, (ANY, TRUE))))), 4)

    def test_tape_length(self):
        wide = leaf(G5, 7, (), ())
        self.assertEqual(tape_length(TRUE), 0)
        self.assertEqual(tape_length(wide), 7)
        self.assertEqual(tape_length(every(G5, ())), 0)
        for need in range(4):
            self.assertEqual(tape_length(at_least(G5, need, (wide, ANY, TRUE))), 8 + 3 - need)
        inner = either(G5, (wide, ANY, ANY))
        self.assertEqual(tape_length(inner), 11)
        self.assertEqual(tape_length(at_least(G5, 1, (inner, wide, inner, every(G5, (wide,))))), 39)

    def test_random_statements(self):
        numbers = random.Random(1)
        for _ in range(150):
            statement = random_statement(numbers, G5, levels=4)
            self.assertEqual(leaf_count(statement), len(leaves_of(statement)))
            own = sum(one[1] for one in leaves_of(statement))
            self.assertEqual(tape_length(statement), own + self.own_numbers(statement))
            self.assertEqual(tape_length(rebuilt(statement)), tape_length(statement))
            self.assertEqual(depth(rebuilt(statement)), depth(statement))
            self.assertEqual(leaf_count(rebuilt(statement)), leaf_count(statement))

    def own_numbers(self, statement):
        if statement[0] == "rows":
            return 0
        return len(statement[2]) - statement[1] + sum(self.own_numbers(kid) for kid in statement[2])

    def test_large_statements(self):
        wide = leaf(G127, 64, ((G127.members[1],) * 64,), (1,))
        statement = every(G127, (wide,) * 6)
        self.assertEqual((depth(statement), leaf_count(statement), tape_length(statement)), (2, 6, 384))
        kid = leaf(G127, 0, (), ())
        many = at_least(G127, 1, (every(G127, (kid,) * 64),) * 6)
        self.assertEqual((depth(many), leaf_count(many), tape_length(many)), (3, 384, 5))

    def test_by_name(self):
        self.assertEqual(depth(statement=TRUE), 1)
        self.assertEqual(leaf_count(statement=TRUE), 1)
        self.assertEqual(tape_length(statement=ANY), 1)
        self.assertIs(holds(statement=FALSE, group=G5), False)
        self.assertEqual(ways(statement=TRUE), ((0,),))


class Holding(unittest.TestCase):
    def test_leaves(self):
        self.assertIs(holds(G5, leaf(G5, 0, (), ())), True)
        self.assertIs(holds(G5, leaf(G5, 4, (), ())), True)
        self.assertIs(holds(G5, leaf(G5, 0, ((), ()), (1, 1))), True)
        self.assertIs(holds(G5, leaf(G5, 0, ((), ()), (1, 3))), False)
        self.assertIs(holds(G5, leaf(G5, 1, ((1,),), (3,))), False)
        self.assertIs(holds(G5, leaf(G5, 1, ((1,),), (1,))), True)
        for member in G5.members:
            self.assertIs(holds(G5, leaf(G5, 1, ((9,),), (member,))), True)

    def test_every_leaf_of_two_rows(self):
        for group in (G3, table_group((2, 0, 1))):
            some = group.members
            for a in some:
                for b in some:
                    for c in some:
                        for d in some:
                            statement = ("rows", 1, ((a,), (b,)), (c, d))
                            expected = len(all_witnesses(group, statement)) > 0
                            self.assertIs(holds(group, statement), expected)

    def test_nodes(self):
        for pattern in range(16):
            kids = tuple(TRUE if pattern >> i & 1 else FALSE for i in range(4))
            for need in range(5):
                expected = bin(pattern).count("1") >= need
                self.assertIs(holds(G5, at_least(G5, need, kids)), expected)
                self.assertIs(holds(G5, every(G5, (at_least(G5, need, kids), TRUE))), expected)
        self.assertIs(holds(G5, every(G5, ())), True)
        self.assertIs(holds(G5, at_least(G5, 0, (FALSE, FALSE))), True)

    def test_random_statements(self):
        numbers = random.Random(2)
        seen = []
        for group in small_groups():
            for _ in range(80):
                statement = random_statement(numbers, group)
                expected = plain_holds(group, statement)
                seen.append(expected)
                self.assertIs(holds(group, statement), expected)
                self.assertIs(holds(group, rebuilt(statement)), expected)
        self.assertGreater(seen.count(True), 50)
        self.assertGreater(seen.count(False), 50)

    def test_large_statements(self):
        group = G127
        true = leaf(group, 0, (), ())
        false = leaf(group, 0, ((),), (group.members[1],))
        kids = (true, false) * 32
        self.assertIs(holds(group, at_least(group, 32, kids)), True)
        self.assertIs(holds(group, at_least(group, 33, kids)), False)
        six = (at_least(group, 32, kids),) * 5 + (at_least(group, 33, kids),)
        self.assertIs(holds(group, at_least(group, 5, six)), True)
        self.assertIs(holds(group, every(group, six)), False)

    def test_wide_leaves(self):
        numbers = random.Random(3)
        group = G127
        matrix = tuple(tuple(numbers.choice(group.members) for _ in range(64)) for _ in range(40))
        x = tuple(numbers.randrange(127) for _ in range(64))
        matrix = matrix + matrix[:8]
        targets = tuple(group.combine(row, x) for row in matrix)
        self.assertIs(holds(group, leaf(group, 64, matrix, targets)), True)
        wrong = (*targets[:-1], group.multiply(targets[-1], group.members[1]))
        self.assertIs(holds(group, leaf(group, 64, matrix, wrong)), False)


class Ways(unittest.TestCase):
    def test_known(self):
        self.assertEqual(ways(TRUE), ((0,),))
        self.assertEqual(ways(FALSE), ((0,),))
        self.assertEqual(ways(every(G5, (TRUE, FALSE, ANY))), ((0, 1, 2),))
        self.assertEqual(ways(either(G5, (TRUE, FALSE, ANY))), ((0,), (1,), (2,)))
        self.assertEqual(ways(at_least(G5, 2, (TRUE, FALSE, ANY))), ((0, 1), (0, 2), (1, 2)))
        self.assertEqual(ways(every(G5, (either(G5, (ANY, ANY)), ANY))), ((0, 2), (1, 2)))
        self.assertEqual(ways(either(G5, (every(G5, (ANY, ANY)), ANY))), ((0, 1), (2,)))

    def test_always_holding(self):
        always = every(G5, ())
        self.assertEqual(ways(always), ((),))
        self.assertEqual(ways(at_least(G5, 0, (FALSE, FALSE))), ((),))
        self.assertEqual(ways(either(G5, (FALSE, always))), ((),))
        self.assertEqual(ways(at_least(G5, 2, (FALSE, always, FALSE))), ((0,), (1,)))
        self.assertEqual(ways(every(G5, (FALSE, always))), ((0,),))

    def test_order_of_tuples(self):
        found = ways(at_least(G127, 2, (TRUE, every(G127, (TRUE, TRUE)), TRUE)))
        self.assertEqual(found, ((0, 1, 2), (0, 3), (1, 2, 3)))

    def test_ten_leaves_and_more(self):
        for many in range(0, 15):
            statement = every(G127, (TRUE,) * many)
            self.assertEqual(raised_by(ways, statement), None if many <= 10 else BadStatement)
        self.assertEqual(ways(every(G127, (TRUE,) * 10)), (tuple(range(10)),))
        self.assertEqual(len(ways(at_least(G127, 5, (TRUE,) * 10))), 252)
        halves = (at_least(G127, 2, (TRUE,) * 5),) * 2
        self.assertEqual(ways(every(G127, halves)), plain_ways(every(G127, halves)))
        self.assertEqual(raised_by(ways, every(G127, (every(G127, (TRUE,) * 5),) * 2 + (TRUE,))), BadStatement)
        self.assertEqual(raised_by(ways, at_least(G127, 0, (TRUE,) * 11)), BadStatement)
        self.assertEqual(raised_by(ways, every(G127, (TRUE,) * 64)), BadStatement)

    def test_many_nodes_with_few_leaves(self):
        always = every(G127, ())
        inner = at_least(G127, 60, (always,) * 59 + (TRUE, FALSE))
        statement = at_least(G127, 2, (inner,) * 5)
        self.assertEqual(ways(statement), plain_ways(statement))

    def test_random_statements(self):
        numbers = random.Random(4)
        tried = 0
        while tried < 250:
            statement = random_statement(numbers, PowerGroup(29, 7), levels=4, most_kids=4)
            if len(leaves_of(statement)) <= 8:
                tried += 1
                expected = plain_ways(statement)
                self.assertEqual(ways(statement), expected)
                self.assertEqual(ways(rebuilt(statement)), expected)

    def test_statement_holds_if_a_way_holds(self):
        numbers = random.Random(5)
        for _ in range(150):
            statement = random_statement(numbers, G3)
            if len(leaves_of(statement)) <= 10:
                leaves = [holds(G3, one) for one in leaves_of(statement)]
                some_way = any(all(leaves[at] for at in way) for way in ways(statement))
                self.assertIs(holds(G3, statement), some_way)
                self.assertIs(truth(statement, leaves), some_way)
