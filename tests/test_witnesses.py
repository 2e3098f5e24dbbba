import math
import random
import unittest

from hushpapers.groups import PowerGroup
from hushpapers.statements import (
    active_part, at_least, count_witnesses, either, every, find_witness, fits, holds, leaf,
)
from tests.plain_statements import (
    all_candidates, all_witnesses, is_witness, random_leaf, random_statement, rebuilt,
)
from tests.samples import WRONG_FORMS, plain_power, small_groups, table_group

G5 = PowerGroup(11, 5)
G3 = PowerGroup(7, 3)
G127 = PowerGroup(509, 127)
FALSE_3 = leaf(G3, 1, ((1,),), (2,))
ANY_3 = leaf(G3, 1, (), ())
TRUE = leaf(G5, 0, (), ())
FALSE = leaf(G5, 0, ((),), (3,))
ANY = leaf(G5, 1, (), ())
ZERO = leaf(G5, 1, ((9,),), (1,))
ONE = leaf(G5, 1, ((9,),), (9,))
EXAMPLE = either(G5, (leaf(G5, 1, ((9,),), (9,)), leaf(G5, 1, ((9,),), (3,))))


def few_statements(seed, many, most=4000):
    """Yield random statements with few candidates for a witness, each with its group."""
    numbers = random.Random(seed)
    groups = small_groups()
    found = 0
    while found < many:
        group = numbers.choice(groups)
        statement = random_statement(numbers, group)
        if count_candidates(group, statement) <= most:
            found += 1
            yield group, statement


def count_candidates(group, statement):
    if statement[0] == "rows":
        return group.order ** statement[1]
    return math.prod(1 + count_candidates(group, kid) for kid in statement[2])


class Fitting(unittest.TestCase):
    def test_example(self):
        self.assertIs(fits(G5, EXAMPLE, (None, (3,))), True)
        self.assertIs(fits(G5, EXAMPLE, ((1,), None)), True)
        self.assertIs(fits(G5, EXAMPLE, ((1,), (3,))), True)
        self.assertIs(fits(G5, EXAMPLE, (None, None)), False)
        self.assertIs(fits(G5, EXAMPLE, (None, (1,))), False)

    def test_every_candidate(self):
        for group, statement in few_statements(1, 250):
            for candidate in all_candidates(group, statement):
                expected = is_witness(group, statement, candidate)
                self.assertIs(fits(group, statement, candidate), expected)

    def test_equal_statements(self):
        for group, statement in few_statements(2, 30, 200):
            for candidate in all_candidates(group, statement):
                self.assertIs(
                    fits(group, rebuilt(statement), candidate), fits(group, statement, candidate)
                )

    def test_items_beyond_need(self):
        statement = either(G5, (ZERO, ONE, ANY))
        self.assertIs(fits(G5, statement, ((0,), (1,), (4,))), True)
        self.assertIs(fits(G5, statement, ((0,), (2,), None)), False)
        self.assertIs(fits(G5, statement, ((0,), None, (5,))), False)
        self.assertIs(fits(G5, statement, ((0,), (1,), ())), False)
        self.assertIs(fits(G5, statement, ((1,), (1,), None)), False)
        self.assertIs(fits(G5, at_least(G5, 0, (ZERO, ONE)), (None, None)), True)
        self.assertIs(fits(G5, at_least(G5, 0, (ZERO, ONE)), (None, (2,))), False)
        self.assertIs(fits(G5, at_least(G5, 0, (ZERO, FALSE)), ((0,), ())), False)

    def test_wrong_forms_for_a_leaf(self):
        two = leaf(G5, 2, (), ())
        self.assertIs(fits(G5, two, (0, 4)), True)
        for wrong in (*WRONG_FORMS, 0, 4, (0,), (0, 0, 0), (0, None), (0, (4,)), ((0, 4),), ((0,), (4,))):
            self.assertIs(fits(G5, two, wrong), False, wrong)
        for wrong in (None, 0, 1, (0,), (None,), ((),), ((), ())):
            self.assertIs(fits(G5, TRUE, wrong), False, wrong)
        self.assertIs(fits(G5, TRUE, ()), True)
        self.assertIs(fits(G5, FALSE, ()), False)

    def test_wrong_numbers_for_a_leaf(self):
        for group in small_groups():
            free = leaf(group, 2, (), ())
            q = group.order
            row = (group.members[0], group.members[1])
            fixed = leaf(group, 2, (row,), (group.unit,))
            for number in (-1, -q, q, q + 1, 2 * q, 10 ** 59, -10 ** 59, q * 10 ** 50):
                for wrong in ((number, 0), (0, number), (number, number)):
                    self.assertIs(fits(group, free, wrong), False)
                    self.assertIs(fits(group, fixed, wrong), False)
            for number in range(q):
                self.assertIs(fits(group, free, (number, q - 1)), True)

    def test_wrong_forms_for_a_node(self):
        statement = at_least(G5, 1, (ANY, ANY))
        for wrong in (
            None, 0, 7, (), (None,), ((0,),), ((0,), (0,), (0,)), ((0,), None, None), (None, None),
            ((0,), 0), (0, (0,)), (0, None), ((0,), ()), ((0,), (0, 0)), ((0,), ((0,),)), ((None,), None),
            (((0,), None),), (((0,),), None), ((0,), (None,)), ((5,), None), (None, (-1,)),
        ):
            self.assertIs(fits(G5, statement, wrong), False, wrong)
        self.assertIs(fits(G5, every(G5, ()), ()), True)
        for wrong in (None, 0, (None,), ((),)):
            self.assertIs(fits(G5, every(G5, ()), wrong), False, wrong)

    def test_wrong_forms_at_any_depth(self):
        good = (0,)
        statement = ANY
        for _ in range(6):
            statement = at_least(G5, 1, (TRUE, statement, every(G5, ())))
        for wrong in (*[w for w in WRONG_FORMS if w is not None], 0, (5,), (-1,), (0, 0), ((0,),), (None,), None):
            self.assertIs(fits(G5, statement, self.wrapped(6, wrong)), False, wrong)
        self.assertIs(fits(G5, statement, self.wrapped(6, good)), True)
        for levels in (0, 1, 2, 3, 4, 5, 7, 8, 12):
            self.assertIs(fits(G5, statement, self.wrapped(levels, good)), False)

    def wrapped(self, levels, inner):
        for _ in range(levels):
            inner = (None, inner, None)
        return inner

    def test_twenty_levels(self):
        deep = ()
        for _ in range(19):
            deep = (deep,)
        for statement in (TRUE, ANY, EXAMPLE, every(G5, ()), every(G5, (TRUE,)), every(G5, (ANY, EXAMPLE))):
            self.assertIs(fits(G5, statement, deep), False)
            self.assertIs(fits(G5, statement, (deep, deep)), False)

    def test_by_name(self):
        self.assertIs(fits(witness=(None, (3,)), statement=EXAMPLE, group=G5), True)
        self.assertEqual(find_witness(statement=EXAMPLE, group=G5), ((1,), None))
        self.assertEqual(count_witnesses(statement=EXAMPLE, group=G5), 3)
        self.assertEqual(active_part(witness=((1,), (3,)), statement=EXAMPLE), ((1,), None))


class Finding(unittest.TestCase):
    def test_leaves(self):
        self.assertEqual(find_witness(G5, TRUE), ())
        self.assertIsNone(find_witness(G5, FALSE))
        self.assertEqual(find_witness(G5, leaf(G5, 3, (), ())), (0, 0, 0))
        self.assertEqual(find_witness(G5, leaf(G5, 2, ((1, 3),), (5,))), (0, 3))
        self.assertEqual(find_witness(G5, leaf(G5, 2, ((3, 3),), (5,))), (3, 0))
        self.assertEqual(find_witness(G5, leaf(G5, 1, ((1,),), (1,))), (0,))
        self.assertIsNone(find_witness(G5, leaf(G5, 1, ((1,),), (3,))))

    def test_solution_is_zero_in_free_columns(self):
        numbers = random.Random(3)
        for group in small_groups():
            for _ in range(60):
                statement = random_leaf(numbers, group, 3, 3)
                found = find_witness(group, statement)
                solutions = all_witnesses(group, statement)
                if not solutions:
                    self.assertIsNone(found)
                    continue
                self.assertIn(found, solutions)
                # A column is free if it does not add to what the columns before it make.
                made = {tuple(group.unit for _ in statement[3])}
                for at in range(statement[1]):
                    column = [row[at] for row in statement[2]]
                    more = {
                        tuple(group.multiply(x, plain_power(group, y, e)) for x, y in zip(one, column))
                        for one in made for e in range(group.order)
                    }
                    if more == made:
                        self.assertEqual(found[at], 0)
                    made = more

    def test_nodes(self):
        for pattern in range(32):
            kids = tuple(ONE if pattern >> i & 1 else FALSE for i in range(4))
            for need in range(5):
                expected, missing = [], need
                for kid in kids:
                    takes = kid == ONE and missing > 0
                    expected.append((1,) if takes else None)
                    missing -= takes
                found = find_witness(G5, at_least(G5, need, kids))
                self.assertEqual(found, None if missing else tuple(expected))
        self.assertEqual(find_witness(G5, every(G5, ())), ())

    def test_random_statements(self):
        for group, statement in few_statements(4, 250):
            found = find_witness(group, statement)
            self.assertEqual(found, self.plain(group, statement))
            self.assertEqual(find_witness(group, rebuilt(statement)), found)
            self.assertIs(holds(group, statement), found is not None)
            if found is not None:
                self.assertIs(fits(group, statement, found), True)
                self.assertEqual(active_part(statement, found), found)

    def plain(self, group, statement):
        if statement[0] == "rows":
            return find_witness(group, statement)
        _, need, kids = statement
        found = [self.plain(group, kid) for kid in kids]
        able = [at for at, item in enumerate(found) if item is not None]
        if len(able) < need:
            return None
        return tuple(item if at in able[:need] else None for at, item in enumerate(found))

    def test_kinds(self):
        self.assertIsInstance(find_witness(G5, every(G5, (ANY, EXAMPLE))), tuple)
        self.assertEqual(find_witness(G5, every(G5, (ANY, EXAMPLE))), ((0,), ((1,), None)))

    def test_wide_leaf(self):
        numbers = random.Random(5)
        matrix = tuple(tuple(numbers.choice(G127.members) for _ in range(64)) for _ in range(30))
        x = tuple(numbers.randrange(127) for _ in range(64))
        statement = leaf(G127, 64, matrix, tuple(G127.combine(row, x) for row in matrix))
        found = find_witness(G127, statement)
        self.assertIs(fits(G127, statement, found), True)
        self.assertIs(fits(G127, statement, x), True)
        self.assertEqual(count_witnesses(G127, statement), 127 ** 34)
        self.assertGreaterEqual(found.count(0), 34)


class Counting(unittest.TestCase):
    def test_leaves(self):
        self.assertEqual(count_witnesses(G5, TRUE), 1)
        self.assertEqual(count_witnesses(G5, FALSE), 0)
        for width in (0, 1, 2, 7, 64):
            self.assertEqual(count_witnesses(G5, leaf(G5, width, (), ())), 5 ** width)
            row = (1,) * width
            self.assertEqual(count_witnesses(G5, leaf(G5, width, (row,), (1,))), 5 ** width)
            self.assertEqual(count_witnesses(G5, leaf(G5, width, (row,), (4,))), 0)

    def test_by_trying(self):
        for group, statement in few_statements(6, 300):
            many = len(all_witnesses(group, statement))
            self.assertEqual(count_witnesses(group, statement), many)
            self.assertEqual(count_witnesses(group, rebuilt(statement)), many)

    def test_each_need(self):
        for need in range(4):
            statement = at_least(G5, need, (ANY, EXAMPLE, TRUE))
            self.assertEqual(count_witnesses(G5, statement), len(all_witnesses(G5, statement)))
        for need in range(3):
            statement = at_least(G3, need, (FALSE_3, ANY_3))
            self.assertEqual(count_witnesses(G3, statement), (4, 3, 0)[need])

    def test_sixty_kids(self):
        one = leaf(G127, 0, (), ())
        free = leaf(G127, 2, (), ())
        never = leaf(G127, 0, ((),), (G127.members[1],))
        for need in (0, 1, 2, 30, 59, 60):
            chosen = sum(math.comb(60, j) for j in range(need, 61))
            self.assertEqual(count_witnesses(G127, at_least(G127, need, (one,) * 60)), chosen)
            weighted = sum(math.comb(60, j) * 127 ** (2 * j) for j in range(need, 61))
            self.assertEqual(count_witnesses(G127, at_least(G127, need, (free,) * 60)), weighted)
            half = sum(math.comb(30, j) for j in range(need, 31))
            mixed = at_least(G127, need, (one, never) * 30)
            self.assertEqual(count_witnesses(G127, mixed), half)

    def test_four_hundred(self):
        one = leaf(G127, 0, (), ())
        some = at_least(G127, 20, (one,) * 40)
        inner = sum(math.comb(40, j) for j in range(20, 41))
        statement = at_least(G127, 3, (some,) * 9)
        outer = sum(math.comb(9, j) * inner ** j for j in range(3, 10))
        self.assertEqual(count_witnesses(G127, statement), outer)
        wide = leaf(G127, 1, (), ())
        statement = every(G127, (every(G127, (wide,) * 60),) * 6)
        self.assertEqual(count_witnesses(G127, statement), 127 ** 360)

    def test_empty_nodes(self):
        self.assertEqual(count_witnesses(G5, every(G5, ())), 1)
        self.assertEqual(count_witnesses(G5, at_least(G5, 0, (every(G5, ()),))), 2)
        self.assertEqual(count_witnesses(G5, at_least(G5, 0, (FALSE, FALSE))), 1)

    def test_renamed_members_change_nothing(self):
        numbers = random.Random(7)
        other = table_group((3, 1, 4, 0, 2))
        for _ in range(60):
            statement = random_statement(numbers, G5)
            carried = self.carried(statement, other)
            self.assertEqual(count_witnesses(other, carried), count_witnesses(G5, statement))
            self.assertEqual(find_witness(other, carried), find_witness(G5, statement))

    def carried(self, statement, other):
        if statement[0] == "some":
            return ("some", statement[1], tuple(self.carried(kid, other) for kid in statement[2]))
        def move(row):
            return tuple(G5.carried(x, 3, other, 4) for x in row)
        return ("rows", statement[1], tuple(move(row) for row in statement[2]), move(statement[3]))


class ActiveParts(unittest.TestCase):
    def test_leaves(self):
        self.assertEqual(active_part(TRUE, ()), ())
        self.assertEqual(active_part(ANY, (4,)), (4,))

    def test_first_need_items_stay(self):
        kids = (ANY, ANY, ANY, ANY)
        for pattern in range(16):
            items = tuple((i,) if pattern >> i & 1 else None for i in range(4))
            given = [i for i in range(4) if pattern >> i & 1]
            for need in range(len(given) + 1):
                expected = tuple((i,) if i in given[:need] else None for i in range(4))
                self.assertEqual(active_part(at_least(G5, need, kids), items), expected)

    def test_below(self):
        inner = either(G5, (ANY, ANY))
        outer = at_least(G5, 2, (inner, ANY, inner, inner))
        witness = (None, (2,), ((1,), (3,)), ((4,), None))
        self.assertEqual(active_part(outer, witness), (None, (2,), ((1,), None), None))
        self.assertEqual(active_part(every(G5, (outer,)), (witness,)), ((None, (2,), ((1,), None), None),))
        self.assertEqual(active_part(either(G5, (TRUE, ANY)), ((), (0,))), ((), None))
        self.assertEqual(active_part(every(G5, ()), ()), ())

    def test_every_witness_of_small_statements(self):
        for group, statement in few_statements(8, 150, 600):
            for witness in all_witnesses(group, statement):
                part = active_part(statement, witness)
                self.assertEqual(part, self.plain(statement, witness))
                self.assertIs(fits(group, statement, part), True)
                self.assertEqual(active_part(rebuilt(statement), part), part)

    def plain(self, statement, witness):
        if statement[0] == "rows":
            return witness
        _, need, kids = statement
        active = [at for at, item in enumerate(witness) if item is not None][:need]
        return tuple(self.plain(kids[at], witness[at]) if at in active else None for at in range(len(kids)))
