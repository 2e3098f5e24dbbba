import random
import unittest

from hushpapers.covers import Key, add_openings, divide, subtract_openings
from hushpapers.errors import BadKey, NotOneCover, OpenKey, SameOpening
from hushpapers.groups import PowerGroup
from tests.samples import plain_combine, plain_power, raised_by, small_groups

FAR = (10 ** 38, -10 ** 38, 123456789012345678901234567890123456789, 5 - 10 ** 39 // 2)


def keys():
    """Return every key of the small groups."""
    return [
        Key(group, base, blind_base)
        for group in small_groups()
        for base in group.members if base != group.unit
        for blind_base in group.members
    ]


def large_keys():
    group = PowerGroup(509, 127)
    last = group.members[-1]
    return [Key(group, last, group.members[40]), Key(group, last, last), Key(group, last, 1)]


def far_numbers(numbers, q, residue):
    """Return the residue itself and numbers of both signs that equal it modulo q."""
    return (residue, residue - q, residue + q, residue + q * numbers.randrange(-10 ** 36, 10 ** 36))


class Keys(unittest.TestCase):
    def test_attributes(self):
        group = PowerGroup(11, 5)
        key = Key(group, 3, 9)
        self.assertIs(key.group, group)
        self.assertEqual((key.base, key.blind_base), (3, 9))
        self.assertEqual(key.relation, 2)
        self.assertIs(key.hiding, True)

    def test_relation_and_hiding(self):
        for key in keys() + large_keys():
            self.assertEqual(plain_power(key.group, key.base, key.relation), key.blind_base)
            self.assertTrue(0 <= key.relation < key.group.order)
            self.assertIs(key.hiding, key.blind_base != key.group.unit)
            if key.blind_base == key.base:
                self.assertEqual(key.relation, 1)

    def test_which_are_refused(self):
        for group in small_groups():
            others = (-1, 1000, 10 ** 50, None, "3", (3,), ())
            some = [x for x in range(-2, 32) if x not in group.members]
            member = [x for x in group.members if x != group.unit][0]
            for wrong in (*others, *some):
                self.assertEqual(raised_by(Key, group, wrong, member), BadKey)
                self.assertEqual(raised_by(Key, group, member, wrong), BadKey)
                self.assertEqual(raised_by(Key, group, member, wrong), BadKey)
            for blind_base in group.members:
                self.assertEqual(raised_by(Key, group, group.unit, blind_base), BadKey)
                self.assertIsNone(raised_by(Key, group, member, blind_base))

    def test_by_name(self):
        group = PowerGroup(11, 5)
        key = Key(blind_base=9, base=3, group=group)
        self.assertEqual(key.relation, 2)
        self.assertEqual(key.cover(blind=1, value=2), 4)
        self.assertIs(key.opens(blind=1, value=2, cover=4), True)
        self.assertEqual(key.blind_for(value=0, cover=4), 2)
        self.assertEqual(key.count_openings(value=0, cover=4), 1)
        self.assertEqual(key.relation_from(second=(4, 0), first=(2, 1)), 2)
        self.assertEqual(add_openings(second=(4, 2), first=(3, 4), q=5), (2, 1))
        self.assertEqual(subtract_openings(second=(4, 2), first=(3, 4), q=5), (4, 2))
        self.assertEqual(divide(second=3, first=5, group=group), 9)

    def test_methods_stand_in_the_class(self):
        names = "relation hiding cover opens blind_for count_openings relation_from".split()
        for name in names:
            self.assertIn(name, vars(Key))


class Covers(unittest.TestCase):
    def test_covers(self):
        for key in keys():
            for value in range(key.group.order):
                for blind in range(key.group.order):
                    expected = plain_combine(key.group, (key.base, key.blind_base), (value, blind))
                    self.assertEqual(key.cover(value, blind), expected)
                    for cover in key.group.members:
                        self.assertIs(key.opens(cover, value, blind), cover == expected)

    def test_any_integers(self):
        numbers = random.Random(1)
        for key in keys()[::3] + large_keys():
            q = key.group.order
            for value in (0, 1, q - 1):
                for blind in (0, 2, q - 1):
                    cover = key.cover(value, blind)
                    for far_value in far_numbers(numbers, q, value):
                        for far_blind in far_numbers(numbers, q, blind):
                            self.assertEqual(key.cover(far_value, far_blind), cover)
                            self.assertIs(key.opens(cover, far_value, far_blind), True)
                            self.assertIs(key.opens(cover, far_value + 1, far_blind), False)
            for value in FAR:
                for blind in FAR:
                    self.assertEqual(key.cover(value, blind), key.cover(value % q, blind % q))

    def test_sums(self):
        numbers = random.Random(2)
        for key in keys():
            group, q = key.group, key.group.order
            for _ in range(3):
                a, b = [(numbers.randrange(q), numbers.randrange(q)) for _ in "ab"]
                together = add_openings(q, a, b)
                apart = subtract_openings(q, a, b)
                self.assertEqual(together, ((a[0] + b[0]) % q, (a[1] + b[1]) % q))
                self.assertEqual(apart, ((a[0] - b[0]) % q, (a[1] - b[1]) % q))
                self.assertEqual(key.cover(*together), group.multiply(key.cover(*a), key.cover(*b)))
                self.assertEqual(key.cover(*apart), divide(group, key.cover(*a), key.cover(*b)))

    def test_divide(self):
        for group in (*small_groups(), PowerGroup(509, 127)):
            for a in group.members[:15]:
                for b in group.members[:15]:
                    self.assertEqual(group.multiply(divide(group, a, b), b), a)


class Openings(unittest.TestCase):
    def test_example(self):
        key = Key(PowerGroup(11, 5), 3, 9)
        self.assertEqual(key.cover(2, 1), 4)
        self.assertEqual(key.cover(4, 0), 4)
        self.assertEqual(key.relation_from((2, 1), (4, 0)), 2)
        self.assertEqual(key.blind_for(4, 0), 2)

    def test_blind_for(self):
        numbers = random.Random(3)
        for key in keys() + large_keys():
            q = key.group.order
            for cover in key.group.members[:10]:
                for value in (0, 1, 2, q - 1):
                    for far in far_numbers(numbers, q, value):
                        if not key.hiding:
                            self.assertEqual(raised_by(key.blind_for, cover, far), OpenKey)
                        else:
                            blind = key.blind_for(cover, far)
                            self.assertTrue(0 <= blind < q)
                            self.assertEqual(key.cover(value, blind), cover)

    def test_count_openings(self):
        numbers = random.Random(4)
        for key in keys():
            q = key.group.order
            for cover in key.group.members:
                for value in range(q):
                    many = sum(key.cover(value, blind) == cover for blind in range(q))
                    for far in far_numbers(numbers, q, value):
                        self.assertEqual(key.count_openings(cover, far), many)

    def test_count_openings_of_a_large_open_key(self):
        key = large_keys()[2]
        self.assertEqual([key.count_openings(key.cover(5, 0), value) for value in (4, 5, 132, -122)],
                         [0, 127, 127, 127])


class Relations(unittest.TestCase):
    def test_every_two_pairs(self):
        for key in keys():
            q = key.group.order
            if q > 5:
                continue
            pairs = [(value, blind) for value in range(q) for blind in range(q)]
            for a in pairs:
                for b in pairs:
                    self.check(key, a, b)

    def test_any_integers(self):
        numbers = random.Random(5)
        for key in keys() + large_keys():
            q = key.group.order
            for _ in range(12):
                a = (numbers.randrange(q), numbers.randrange(q))
                blind = numbers.randrange(q)
                value = (a[0] + (a[1] - blind) * key.relation) % q
                for b in (a, (value, blind), (value, (blind + 1) % q), (numbers.randrange(q), blind)):
                    far_a, far_b = [
                        tuple(numbers.choice(far_numbers(numbers, q, part)) for part in pair)
                        for pair in (a, b)
                    ]
                    self.check(key, far_a, far_b)

    def test_equal_modulo_q_only(self):
        key = Key(PowerGroup(11, 5), 3, 9)
        self.assertEqual(raised_by(key.relation_from, (2, 1), (2, 1)), SameOpening)
        self.assertEqual(raised_by(key.relation_from, (2, 1), (7, -4)), SameOpening)
        self.assertEqual(raised_by(key.relation_from, (2, 1), (2 + 5 * 10 ** 50, 1)), SameOpening)
        self.assertEqual(raised_by(key.relation_from, (2, 1), (3, 1)), NotOneCover)

    def test_open_key(self):
        key = Key(PowerGroup(11, 5), 3, 1)
        self.assertEqual(key.relation_from((2, 1), (2, 4)), 0)
        self.assertEqual(key.relation_from((2, 1), (-3, 4)), 0)
        self.assertEqual(raised_by(key.relation_from, (2, 1), (2, 1)), SameOpening)
        self.assertEqual(raised_by(key.relation_from, (2, 1), (3, 1)), NotOneCover)
        self.assertEqual(raised_by(key.relation_from, (2, 1), (3, 2)), NotOneCover)

    def check(self, key, a, b):
        q = key.group.order
        if plain_cover(key, a) != plain_cover(key, b):
            self.assertEqual(raised_by(key.relation_from, a, b), NotOneCover)
        elif a[0] % q == b[0] % q and a[1] % q == b[1] % q:
            self.assertEqual(raised_by(key.relation_from, a, b), SameOpening)
        else:
            self.assertEqual(key.relation_from(a, b), key.relation)


def plain_cover(key, pair):
    """Return the cover as an exponent of the base."""
    return (pair[0] + pair[1] * key.relation) % key.group.order
