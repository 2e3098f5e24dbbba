import itertools
import random
import unittest

from hushpapers.errors import BadGroup, NoLogarithm
from hushpapers.groups import Group, PowerGroup, TableGroup
from tests.samples import (
    plain_combine, plain_power, primes_below, raised_by, renamed_table, small_groups, table_group,
)

PRIMES = primes_below(1001)
PAIRS = [(p, q) for p in PRIMES for q in PRIMES if 3 <= q <= 127 and (p - 1) % q == 0]
HUGE = (10 ** 50, 10 ** 50 + 1, -10 ** 50, -10 ** 50 - 7, 10 ** 59 + 3, 7 - 10 ** 59)
NO_MEMBERS = (None, (), "", "1", "3", (1,), (1, 3), ((1,),), ((), (1, (3,))), "unit")


def is_group_table(table):
    """Tell by the words of the document whether a square table of residues is a group's."""
    order = len(table)
    everyone = range(order)
    units = [u for u in everyone if all(table[u][a] == a == table[a][u] for a in everyone)]
    associative = all(
        table[table[a][b]][c] == table[a][table[b][c]]
        for a, b, c in itertools.product(everyone, repeat=3)
    )
    return bool(units) and associative and all(set(row) == set(everyone) for row in table)


class PowerGroups(unittest.TestCase):
    def test_members_of_every_group(self):
        self.assertEqual(len(PAIRS), 250)
        for modulus, order in PAIRS:
            group = PowerGroup(modulus, order)
            members = tuple(x for x in range(1, modulus) if pow(x, order, modulus) == 1)
            self.assertEqual(group.members, members)
            self.assertEqual(len(group.members), order)
            self.assertEqual((group.modulus, group.order, group.unit), (modulus, order, 1))

    def test_which_are_refused(self):
        pairs = set(PAIRS)
        for modulus in range(-8, 1031):
            for order in range(-4, 140):
                raised = raised_by(PowerGroup, modulus, order)
                if raised != (None if (modulus, order) in pairs else BadGroup):
                    self.fail(f"PowerGroup({modulus}, {order}) raised {raised}")

    def test_each_condition_alone(self):
        for modulus, order in (
            (1009, 7), (1009, 3), (1013, 11), (2017, 7),  # a prime modulus that is too large
            (10 ** 9 + 7, 3),
            (91, 3), (91, 5), (341, 5), (561, 7), (25, 3), (961, 31), (1, 3),  # no prime modulus
            (13, 4), (13, 6), (37, 9), (61, 15), (11, 10), (31, 15),  # no prime order
            (11, 3), (11, 7), (7, 5), (127, 5), (3, 3), (5, 5),  # an order that does not divide
            (11, 2), (3, 2), (263, 131), (557, 139), (11, 1), (11, 0), (11, -5), (-11, 5), (0, 3),
        ):
            with self.subTest(modulus=modulus, order=order):
                self.assertEqual(raised_by(PowerGroup, modulus, order), BadGroup)

    def test_edges_that_are_taken(self):
        for modulus, order in ((7, 3), (997, 83), (997, 3), (509, 127), (991, 11), (13, 3), (23, 11)):
            self.assertIsNone(raised_by(PowerGroup, modulus, order))

    def test_huge_numbers(self):
        for huge in HUGE:
            self.assertEqual(raised_by(PowerGroup, huge, 3), BadGroup)
            self.assertEqual(raised_by(PowerGroup, 7, huge), BadGroup)
            self.assertEqual(raised_by(PowerGroup, huge, huge), BadGroup)

    def test_example(self):
        group = PowerGroup(11, 5)
        self.assertEqual(group.members, (1, 3, 4, 5, 9))
        self.assertEqual(group.unit, 1)
        self.assertEqual([group.power(3, e) for e in range(5)], [1, 3, 9, 5, 4])
        self.assertEqual(group.log(3, 4), 4)

    def test_products(self):
        for modulus, order in ((7, 3), (11, 5), (509, 127), (997, 83)):
            group = PowerGroup(modulus, order)
            for a in group.members:
                for b in group.members:
                    self.assertEqual(group.multiply(a, b), a * b % modulus)

    def test_powers_in_every_group(self):
        for modulus, order in PAIRS:
            group = PowerGroup(modulus, order)
            element = group.members[-1]
            for exponent in (0, 1, 2, order - 1, order, order + 1, 10 ** 50 + 3):
                self.assertEqual(group.power(element, exponent), pow(element, exponent, modulus))
                self.assertEqual(group.power(element, -exponent), pow(element, -exponent, modulus))
            self.assertEqual(group.log(element, group.power(element, 2)), 2)
            self.assertEqual(group.log(group.members[1], 1), 0)

    def test_by_name(self):
        group = PowerGroup(order=5, modulus=11)
        self.assertEqual(group.multiply(second=4, first=3), 1)


class TableGroups(unittest.TestCase):
    def test_every_table_of_order_three(self):
        taken = []
        rows = list(itertools.product(range(3), repeat=3))
        for table in itertools.product(rows, repeat=3):
            raised = raised_by(TableGroup, table)
            self.assertEqual(raised, None if is_group_table(table) else BadGroup, table)
            if raised is None:
                taken.append(table)
        self.assertEqual(len(taken), 3)

    def test_changed_tables_of_order_five(self):
        names = (3, 1, 4, 0, 2)
        table = renamed_table(5, names)
        for row, column, entry in itertools.product(range(5), repeat=3):
            changed = [list(line) for line in table]
            changed[row][column] = entry
            changed = tuple(tuple(line) for line in changed)
            raised = raised_by(TableGroup, changed)
            self.assertEqual(raised, None if changed == table else BadGroup)

    def test_renamed_members(self):
        numbers = random.Random(7)
        for order in (3, 5, 7, 11, 13):
            for _ in range(6):
                names = tuple(numbers.sample(range(order), order))
                table = renamed_table(order, names)
                group = TableGroup(table)
                self.assertEqual(group.table, table)
                self.assertEqual(group.order, order)
                self.assertEqual(group.unit, names[0])
                self.assertEqual(group.members, tuple(range(order)))
                for i, j in itertools.product(range(order), repeat=2):
                    product = names[(i + j) % order]
                    self.assertEqual(group.multiply(names[i], names[j]), product)
                    self.assertEqual(group.power(names[i], j), names[i * j % order])
                self.assertEqual([group.log(names[1], name) for name in names], list(range(order)))

    def test_every_naming_of_order_five(self):
        for names in itertools.permutations(range(5)):
            self.assertEqual(table_group(names).unit, names[0])

    def test_order(self):
        for order in (0, 1, 2, 4, 6, 8, 9, 10, 12, 14, 15, 16, 17, 19, 23):
            table = renamed_table(order, tuple(range(order)))
            self.assertEqual(raised_by(TableGroup, table), BadGroup, order)

    def test_no_unit_on_both_sides(self):
        for order in (3, 5, 7):
            everyone = tuple(range(order))
            # Every member is a unit on the left, and none on the right.
            left = tuple(everyone for _ in everyone)
            self.assertEqual(raised_by(TableGroup, left), BadGroup)
            right = tuple((a,) * order for a in everyone)
            self.assertEqual(raised_by(TableGroup, right), BadGroup)

    def test_not_associative(self):
        loop = (
            (0, 1, 2, 3, 4),
            (1, 0, 3, 4, 2),
            (2, 4, 0, 1, 3),
            (3, 2, 4, 0, 1),
            (4, 3, 1, 2, 0),
        )
        everyone = set(range(5))
        self.assertTrue(all(set(row) == everyone for row in (*loop, *zip(*loop))))
        self.assertEqual(loop[0], tuple(column[0] for column in zip(*loop)))
        self.assertEqual(raised_by(TableGroup, loop), BadGroup)
        # Minus has a unit on one side only and is not associative.
        for order in (3, 5, 13):
            minus = tuple(tuple((a - b) % order for b in range(order)) for a in range(order))
            self.assertEqual(raised_by(TableGroup, minus), BadGroup)

    def test_one_swap_breaks_only_brackets(self):
        for order in (5, 7, 11, 13):
            for first in range(1, order):
                # Two entries of one row, away from the unit's row and column, change places.
                table = [list(row) for row in renamed_table(order, tuple(range(order)))]
                table[first][1], table[first][2] = table[first][2], table[first][1]
                changed = tuple(tuple(row) for row in table)
                self.assertEqual(raised_by(TableGroup, changed), BadGroup)

    def test_a_row_without_every_member(self):
        for order in (3, 5, 7, 11, 13):
            times = tuple(tuple(a * b % order for b in range(order)) for a in range(order))
            self.assertEqual(raised_by(TableGroup, times), BadGroup)
            largest = tuple(tuple(max(a, b) for b in range(order)) for a in range(order))
            self.assertEqual(raised_by(TableGroup, largest), BadGroup)

    def test_other_forms(self):
        good = renamed_table(3, (0, 1, 2))
        for table in (
            0, 3, -1, 10 ** 50, (), (0, 1, 2), ((), (), ()), ((0,), (1,), (2,)),
            good[:2], (*good, good[0]), (*good, ()), (good,), ((good, good, good),), (good, good, good),
            (good[0], good[1], good[2][:2]), (good[0][:2], good[1], good[2]),
            (good[0], good[1], (*good[2], 0)), ((*good[0], 0), good[1], good[2]),
            (good[0], good[1], 2), (0, good[1], good[2]), (good[0], (), good[2]),
            (good[0], good[1], (2, 0, 4)), (good[0], good[1], (2, 0, -2)), (good[0], good[1], (2, 0, 3)),
            ((0, 1, 2), (1, 2, 3), (2, 3, 4)), ((0, 1, -1), (1, -1, 0), (-1, 0, 1)),
            ((1, 2, 3), (2, 3, 1), (3, 1, 2)),
            (good[0], good[1], (2, 0, (1,))), (((0,), 1, 2), good[1], good[2]), (good[0], good[1], (2, 0, ())),
            (good[0], good[1], (2, 0, 10 ** 59)), (((((((()))))),),) * 3,
            tuple((row,) for row in good), tuple(tuple((x,) for x in row) for row in good),
        ):
            with self.subTest(table):
                self.assertEqual(raised_by(TableGroup, table), BadGroup)
        self.assertIsNone(raised_by(TableGroup, good))

    def test_by_name(self):
        group = TableGroup(table=renamed_table(3, (0, 1, 2)))
        self.assertEqual(group.multiply(second=2, first=2), 1)


class BothKinds(unittest.TestCase):
    def groups(self):
        return (
            *small_groups(), PowerGroup(53, 13), PowerGroup(997, 83), PowerGroup(509, 127),
            table_group((5, 12, 0, 1, 4, 2, 3, 11, 10, 6, 9, 8, 7)),
        )

    def test_base_class(self):
        for group in self.groups():
            self.assertIsInstance(group, Group)
        for name in ("power", "inverse_of", "log", "combine", "has", "carried"):
            self.assertIn(name, vars(Group))
        for kind in (PowerGroup, TableGroup):
            self.assertEqual(kind.__bases__, (Group,))
            self.assertIn("multiply", vars(kind))

    def test_unit_and_inverses(self):
        for group in self.groups():
            self.assertIsInstance(group.members, tuple)
            self.assertEqual(group.members, tuple(sorted(set(group.members))))
            for x in group.members:
                self.assertEqual(group.multiply(group.unit, x), x)
                self.assertEqual(group.multiply(x, group.unit), x)
                self.assertEqual(group.multiply(x, group.inverse_of(x)), group.unit)

    def test_powers(self):
        for group in self.groups():
            for x in group.members[:20]:
                inverse = group.inverse_of(x)
                for exponent in (0, 1, 2, 3, group.order - 1, group.order, 2 * group.order + 1):
                    self.assertEqual(group.power(x, exponent), plain_power(group, x, exponent))
                    self.assertEqual(group.power(x, -exponent), plain_power(group, inverse, exponent))

    def test_huge_exponents(self):
        for group in self.groups():
            for x in group.members[:20]:
                for exponent in HUGE:
                    expected = plain_power(group, x, exponent % group.order)
                    self.assertEqual(group.power(x, exponent), expected)
                    self.assertEqual(group.combine((x,), (exponent,)), expected)

    def test_logarithms(self):
        for group in self.groups():
            for base in group.members[:15]:
                if base != group.unit:
                    found = [group.log(base, x) for x in group.members]
                    self.assertEqual(sorted(found), list(range(group.order)))
                    for x, exponent in zip(group.members, found):
                        self.assertEqual(plain_power(group, base, exponent), x)

    def test_logarithms_to_the_unit(self):
        for group in self.groups():
            for x in group.members:
                if x == group.unit:
                    self.assertEqual(group.log(group.unit, x), 0)
                else:
                    self.assertEqual(raised_by(group.log, group.unit, x), NoLogarithm)

    def test_combine(self):
        numbers = random.Random(8)
        for group in self.groups():
            self.assertEqual(group.combine((), ()), group.unit)
            for length in (1, 2, 3, 5):
                factors = tuple(numbers.choice(group.members) for _ in range(length))
                exponents = tuple(numbers.randrange(group.order) for _ in range(length))
                expected = plain_combine(group, factors, exponents)
                self.assertEqual(group.combine(factors, exponents), expected)
                far = tuple(e + group.order * numbers.randrange(-10 ** 47, 10 ** 47) for e in exponents)
                self.assertEqual(group.combine(factors, far), expected)
            x = group.members[-1]
            self.assertEqual(group.combine((x, x), (1, -1)), group.unit)
            self.assertEqual(group.combine((x, x), (1, 1)), group.multiply(x, x))

    def test_has(self):
        for group in self.groups():
            for value in (*range(-5, 1010), 10 ** 50, -10 ** 50):
                self.assertIs(group.has(value), value in group.members)
            for value in NO_MEMBERS:
                self.assertIs(group.has(value), False)
            self.assertIs(group.has(tuple(group.members)), False)
            self.assertIs(group.has((group.unit,)), False)
            self.assertIs(group.has(str(group.unit)), False)

    def test_by_name(self):
        group = PowerGroup(11, 5)
        other = table_group((3, 1, 4, 0, 2))
        self.assertEqual(group.power(exponent=2, element=3), 9)
        self.assertEqual(group.inverse_of(element=3), 4)
        self.assertEqual(group.log(element=4, base=3), 4)
        self.assertEqual(group.combine(exponents=(1, 2), factors=(3, 4)), 4)
        self.assertIs(group.has(value=3), True)
        self.assertEqual(group.carried(other_base=1, other=other, base=3, element=9), 4)


class Carried(unittest.TestCase):
    def pairs(self):
        groups = small_groups()
        return [(a, b) for a in groups for b in groups if a.order == b.order]

    def test_every_base(self):
        for group, other in self.pairs():
            for base in group.members:
                for other_base in other.members:
                    if base != group.unit:
                        for exponent in range(group.order):
                            element = plain_power(group, base, exponent)
                            expected = plain_power(other, other_base, exponent)
                            self.assertEqual(group.carried(element, base, other, other_base), expected)

    def test_products_are_kept(self):
        for group, other in self.pairs():
            base = [x for x in group.members if x != group.unit][-1]
            other_base = [x for x in other.members if x != other.unit][0]
            carried = {x: group.carried(x, base, other, other_base) for x in group.members}
            self.assertEqual(len(set(carried.values())), group.order)
            for x in group.members:
                self.assertEqual(other.carried(carried[x], other_base, group, base), x)
                for y in group.members:
                    self.assertEqual(carried[group.multiply(x, y)], other.multiply(carried[x], carried[y]))

    def test_the_unit_as_base(self):
        for group, other in self.pairs():
            for other_base in other.members:
                self.assertEqual(group.carried(group.unit, group.unit, other, other_base), other.unit)
                for x in group.members:
                    if x != group.unit:
                        raised = raised_by(group.carried, x, group.unit, other, other_base)
                        self.assertEqual(raised, NoLogarithm)
            for x in group.members:
                base = group.members[0] if group.members[0] != group.unit else group.members[1]
                self.assertEqual(group.carried(x, base, other, other.unit), other.unit)

    def test_to_a_large_group(self):
        group, other = PowerGroup(509, 127), PowerGroup(509, 127)
        base, other_base = group.members[5], group.members[77]
        for exponent in range(127):
            element = pow(base, exponent, 509)
            self.assertEqual(group.carried(element, base, other, other_base), pow(other_base, exponent, 509))
