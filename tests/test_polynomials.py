import itertools
import random
import unittest

from hushpapers.claims import value_claim, value_openings, value_witness
from hushpapers.covers import Key, divide
from hushpapers.errors import BadPoints, BadStatement, NotAccepted, OpenKey
from hushpapers.groups import PowerGroup
from hushpapers.polynomials import (
    cover_at, cover_coefficients, deal, degree_claim, join_shares, meet_claim, point_claim,
    retell_deal, share_fits,
)
from hushpapers.residues import value_at
from hushpapers.statements import every, fits, holds
from tests.key_samples import any_number, some_keys
from tests.plain_runs import plain_value
from tests.samples import plain_power, raised_by, rows_of, small_groups, table_group

G3 = PowerGroup(7, 3)
G5 = PowerGroup(11, 5)
G127 = PowerGroup(509, 127)
KEY = Key(G5, 3, 9)
OPEN = Key(G5, 3, 1)
BIG = Key(G127, G127.members[3], G127.members[40])
POINTS = (-1, -7, 0, 1, 2, 5, 7, 10, 35, -35, 10 ** 49 + 3, -10 ** 50 - 1)


def any_row(numbers, length):
    return tuple(any_number(numbers) for _ in range(length))


class Covers(unittest.TestCase):
    def test_cover_coefficients(self):
        numbers = random.Random(1)
        for key in some_keys():
            for length in range(4):
                values, blinds = any_row(numbers, length), any_row(numbers, length)
                expected = tuple(key.cover(v, b) for v, b in zip(values, blinds, strict=True))
                self.assertEqual(cover_coefficients(key, values, blinds), expected)
                for wrong in range(5):
                    if wrong != length:
                        call = (cover_coefficients, key, values, (1,) * wrong)
                        self.assertEqual(raised_by(*call), BadPoints)

    def test_cover_at(self):
        numbers = random.Random(2)
        for group in small_groups():
            for point in POINTS:
                self.assertEqual(cover_at(group, (), point), group.unit)
                for length in (1, 2, 3, 5):
                    covers = tuple(numbers.choice(group.members) for _ in range(length))
                    expected = group.unit
                    for i, cover in enumerate(covers):
                        expected = group.multiply(expected, plain_power(group, cover, point ** i % group.order))
                    self.assertEqual(cover_at(group, covers, point), expected)

    def test_point_0_takes_the_first_cover(self):
        for point in (0, 5, -5, 5 * 10 ** 49):
            self.assertEqual(cover_at(G5, (4, 5, 9), point), 4)

    def test_covers_the_value(self):
        numbers = random.Random(3)
        for key in (*some_keys(), BIG):
            q = key.group.order
            for point in POINTS:
                for length in range(4):
                    values, blinds = any_row(numbers, length), any_row(numbers, length)
                    covers = cover_coefficients(key, values, blinds)
                    expected = key.cover(plain_value(q, values, point), plain_value(q, blinds, point))
                    self.assertEqual(cover_at(key.group, covers, point), expected)


class Claims(unittest.TestCase):
    def test_point_claim(self):
        numbers = random.Random(4)
        for key in (*some_keys(), BIG):
            q = key.group.order
            for point in POINTS:
                values, blinds = any_row(numbers, 3), any_row(numbers, 3)
                covers = cover_coefficients(key, values, blinds)
                value = plain_value(q, values, point) + q * numbers.randrange(-9, 9)
                claim = point_claim(key, covers, point, value)
                self.assertEqual(claim, value_claim(key, cover_at(key.group, covers, point), value))
                opening = (value % q, plain_value(q, blinds, point))
                witness = value_witness(key, opening, value)
                self.assertTrue(fits(key.group, claim, witness))
                self.assertEqual(value_openings(key, witness, value), (opening,))
                if not key.hiding:
                    self.assertFalse(holds(key.group, point_claim(key, covers, point, value + 1)))

    def test_meet_claim(self):
        numbers = random.Random(5)
        for key in some_keys():
            group, q = key.group, key.group.order
            for point in POINTS:
                first, second = [
                    (any_row(numbers, length), any_row(numbers, length)) for length in (3, numbers.randrange(4))
                ]
                covers = [cover_coefficients(key, *one) for one in (first, second)]
                claim = meet_claim(key, *covers, point)
                quotient = divide(group, cover_at(group, covers[0], point), cover_at(group, covers[1], point))
                self.assertEqual(claim, value_claim(key, quotient, 0))
                equal = plain_value(q, first[0], point) == plain_value(q, second[0], point)
                self.assertEqual(holds(group, claim), key.hiding or equal)
        self.assertEqual(meet_claim(KEY, (), (), 3), value_claim(KEY, 1, 0))
        self.assertEqual(meet_claim(KEY, (4,), (), 3), value_claim(KEY, 4, 0))
        self.assertEqual(meet_claim(KEY, (), (4,), 3), value_claim(KEY, 3, 0))

    def test_degree_claim(self):
        covers = (4, 5, 9, 3)
        for degree in (-10 ** 59, -2, -1, 0, 1, 2, 3, 4, 10 ** 59):
            kids = tuple(value_claim(KEY, cover, 0) for i, cover in enumerate(covers) if i > degree)
            self.assertEqual(degree_claim(KEY, covers, degree), every(G5, kids))
            self.assertEqual(degree_claim(KEY, (), degree), ("some", 0, ()))

    def test_degree_of_open_covers(self):
        for values in itertools.product(range(3), repeat=3):
            covers = cover_coefficients(OPEN, values, (4, 0, 1))
            for degree in range(-2, 4):
                expected = not any(value for i, value in enumerate(values) if i > degree)
                self.assertEqual(holds(G5, degree_claim(OPEN, covers, degree)), expected)

    def test_many_covers(self):
        for degree, many in ((-1, 64), (-5, 64), (0, 65), (9, 74), (99, 100)):
            self.assertEqual(len(degree_claim(BIG, (1,) * many, degree)[2]), many - 1 - max(-1, degree))
            self.assertIsNone(raised_by(degree_claim, KEY, (3,) * many, degree))
        for degree, many in ((-1, 65), (-5, 65), (0, 66), (9, 75), (-1, 400)):
            self.assertEqual(raised_by(degree_claim, BIG, (1,) * many, degree), BadStatement)
            self.assertEqual(raised_by(degree_claim, KEY, (1,) * many, degree), BadStatement)


class Dealing(unittest.TestCase):
    def test_shares(self):
        numbers = random.Random(6)
        for q in (3, 5, 7, 127):
            for length in range(5):
                values, blinds = any_row(numbers, length), any_row(numbers, length)
                for many in {0, 1, 2, q - 1}:
                    expected = tuple(
                        (place, plain_value(q, values, place), plain_value(q, blinds, place))
                        for place in range(1, many + 1)
                    )
                    self.assertEqual(deal(q, values, blinds, many), expected)

    def test_empty_polynomial(self):
        self.assertEqual(deal(5, (), (), 2), ((1, 0, 0), (2, 0, 0)))

    def test_errors(self):
        for q in (3, 5, 127):
            for many in (-1, q, q + 1, 10 ** 59, -10 ** 59):
                self.assertEqual(raised_by(deal, q, (1, 2), (1, 2), many), BadPoints)
                self.assertEqual(raised_by(deal, q, (), (), many), BadPoints)
            for values, blinds in (((1,), ()), ((), (1,)), ((1, 2), (1, 2, 3)), ((1, 2), (1,))):
                for many in (0, 2, q):
                    self.assertEqual(raised_by(deal, q, values, blinds, many), BadPoints)

    def test_dealt_shares_fit(self):
        numbers = random.Random(7)
        for key in (*some_keys(), BIG):
            q = key.group.order
            for length in range(4):
                values, blinds = any_row(numbers, length), any_row(numbers, length)
                covers = cover_coefficients(key, values, blinds)
                for place, value, blind in deal(q, values, blinds, q - 1):
                    self.assertIs(share_fits(key, covers, (place, value, blind)), True)
                    other = (place - 10 ** 40 * q, value + 4 * q, blind - 3 * q)
                    self.assertIs(share_fits(key, covers, other), True)
                    self.assertIs(share_fits(key, covers, (place, value + 1, blind)), False)
                    self.assertIs(share_fits(key, covers, (place, value, blind + 1)), not key.hiding)

    def test_share_at_other_places(self):
        covers = cover_coefficients(KEY, (1, 2), (3, 4))
        self.assertIs(share_fits(KEY, covers, (0, 1, 3)), True)
        self.assertIs(share_fits(KEY, covers, (-1, -1, -1)), True)
        self.assertIs(share_fits(KEY, covers, (2, 1, 4)), False)
        self.assertIs(share_fits(KEY, (), (2, 0, 0)), True)
        self.assertIs(share_fits(KEY, (), (2, 1, 0)), False)

    def test_join_shares(self):
        numbers = random.Random(8)
        for q in (3, 5, 7, 127):
            for length in range(4):
                values, blinds = [tuple(numbers.randrange(q) for _ in range(length)) for _ in range(2)]
                for places in (range(1, q), range(-5 * q, -4 * q)):
                    if len(places) < length:
                        continue
                    chosen = numbers.sample(places, length)
                    shares = [
                        (x, value_at(values, x, q) + q * numbers.randrange(-3, 3), value_at(blinds, x, q) - 7 * q)
                        for x in chosen
                    ]
                    for order in (shares, shares[::-1]):
                        self.assertEqual(join_shares(q, tuple(order)), (values, blinds))
        self.assertEqual(join_shares(5, ()), ((), ()))
        self.assertEqual(join_shares(5, ((7, -1, 6),)), ((4,), (1,)))

    def test_more_shares_than_coefficients(self):
        shares = deal(7, (3, 5), (1, 0), 4)
        self.assertEqual(join_shares(7, shares), ((3, 5, 0, 0), (1, 0, 0, 0)))

    def test_equal_places(self):
        for places in ((1, 1), (1, 6), (0, -5), (2, 3, 10 ** 49 * 5 + 2)):
            shares = tuple((place, 1, 1) for place in places)
            self.assertEqual(raised_by(join_shares, 5, shares), BadPoints)


class Retelling(unittest.TestCase):
    def test_every_secret(self):
        numbers = random.Random(9)
        for key in (*some_keys(), BIG):
            if not key.hiding:
                continue
            q = key.group.order
            for length in range(1, min(q, 5)):
                values, blinds = [tuple(numbers.randrange(q) for _ in range(length)) for _ in range(2)]
                covers = cover_coefficients(key, values, blinds)
                shares = list(deal(q, values, blinds, q - 1))
                numbers.shuffle(shares)
                kept = tuple(shares[:length - 1])
                self.assertEqual(retell_deal(key, covers, kept, values[0]), (values, blinds))
                for secret in (*range(min(q, 7)), -1, any_number(numbers)):
                    found = retell_deal(key, covers, kept, secret)
                    self.assertEqual(found[0][0], secret % q)
                    self.assertEqual(cover_coefficients(key, *found), covers)
                    self.assertEqual([len(row) for row in found], [length, length])
                    dealt = deal(q, *found, q - 1)
                    self.assertLessEqual(set(kept), set(dealt))

    def test_numbers_of_any_size(self):
        covers = cover_coefficients(KEY, (1, 2, 4), (3, 4, 0))
        plain = ((2, 1, 1), (4, 3, 4))
        self.assertTrue(all(share_fits(KEY, covers, share) for share in plain))
        moved = ((2 - 5 * 10 ** 40, 1 + 35, 1 - 5), (9, -2, 4 + 10 ** 49 * 5))
        for secret in (0, 3):
            expected = retell_deal(KEY, covers, plain, secret)
            self.assertEqual(retell_deal(KEY, covers, moved, secret - 10 ** 49 * 5), expected)
        self.assertEqual(retell_deal(KEY, covers, plain, 1), ((1, 2, 4), (3, 4, 0)))

    def test_the_only_one(self):
        key = Key(table_group((2, 0, 1)), 0, 1)
        for covers in itertools.product(range(3), repeat=2):
            for place, value, blind in itertools.product((1, 2), range(3), range(3)):
                share = (place, value, blind)
                fitting = [
                    (values, blinds) for values in rows_of(3, 2) for blinds in rows_of(3, 2)
                    if cover_coefficients(key, values, blinds) == covers and share in deal(3, values, blinds, 2)
                ]
                self.assertEqual(len(fitting), 3 if share_fits(key, covers, share) else 0)
                for secret in range(3):
                    if fitting:
                        found = retell_deal(key, covers, (share,), secret)
                        self.assertEqual([one for one in fitting if one[0][0] == secret], [found])
                    else:
                        self.assertEqual(raised_by(retell_deal, key, covers, (share,), secret), NotAccepted)

    def test_errors(self):
        covers = cover_coefficients(KEY, (1, 2, 4), (3, 4, 0))
        good = ((2, 1, 1), (4, 3, 4))
        self.assertIsNone(raised_by(retell_deal, KEY, covers, good, 2))
        wrong_points = (
            (), good[:1], (*good, (1, 2, 2)), (good[0], good[0]), (good[0], (7, 1, 1)), (good[0], (-3, 1, 1)),
            (good[0], (0, 1, 3)), (good[0], (5, 1, 3)), ((-10, 1, 3), good[1]), ((2, 4, 4), (2, 4, 4)),
            ((0, 4, 4), (1, 4, 4)), (good[0], (7, 0, 0)), ((5, 4, 4), good[1]),
        )
        unfit = (
            (good[0], (4, 3, 3)), (good[0], (4, 2, 4)), ((3, 1, 2), good[1]), ((2, 0, 0), (4, 0, 0)),
        )
        for shares in wrong_points:
            self.assertEqual(raised_by(retell_deal, KEY, covers, shares, 2), BadPoints)
        for shares in unfit:
            self.assertEqual(raised_by(retell_deal, KEY, covers, shares, 2), NotAccepted)
        for shares in (good, *wrong_points, *unfit):
            self.assertEqual(raised_by(retell_deal, OPEN, covers, shares, 2), OpenKey)
        for shares in ((), good[:1], good):
            self.assertEqual(raised_by(retell_deal, KEY, (), shares, 2), BadPoints)
            self.assertEqual(raised_by(retell_deal, OPEN, (), shares, 2), OpenKey)

    def test_one_cover_needs_no_share(self):
        for secret in range(-5, 5):
            self.assertEqual(retell_deal(KEY, (4,), (), secret), ((secret % 5,), (KEY.blind_for(4, secret),)))

    def test_every_secret_equally_often(self):
        key = Key(G3, 2, 4)
        found = []
        for secret in range(3):
            told = {}
            for coefficient, *blinds in rows_of(3, 3):
                values, blinds = (secret, coefficient), tuple(blinds)
                one = (cover_coefficients(key, values, blinds), deal(3, values, blinds, 2)[0])
                told[one] = told.get(one, 0) + 1
            found.append(told)
        self.assertEqual(found[0], found[1])
        self.assertEqual(found[0], found[2])
