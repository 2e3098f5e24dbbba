import itertools
import random
import unittest

from hushpapers.errors import BadPoints, NoInverse
from hushpapers.residues import (
    all_rows, inverse, interpolate, is_prime, is_share_row, share_row, value_at,
)
from tests.samples import primes_below, raised_by, rows_of

ORDERS = tuple(q for q in primes_below(128) if q >= 3)
SMALL = (3, 5, 7)


def plain_value(coefficients, x, q):
    return sum(c * x ** i for i, c in enumerate(coefficients)) % q


class Primes(unittest.TestCase):
    def test_below_1600(self):
        primes = set(primes_below(1600))
        for n in range(1600):
            self.assertIs(is_prime(n), n in primes, n)

    def test_to_a_million(self):
        primes = set(primes_below(10 ** 6 + 1))
        wrong = [n for n in range(10 ** 6 + 1) if is_prime(n) is not (n in primes)]
        self.assertEqual(wrong, [])

    def test_below_two(self):
        for n in (1, 0, -1, -2, -3, -4, -5, -7, -997, -10 ** 6, -10 ** 59):
            self.assertIs(is_prime(n), False, n)

    def test_by_name(self):
        self.assertIs(is_prime(n=127), True)


class Inverse(unittest.TestCase):
    def test_residues(self):
        for q in ORDERS:
            for a in range(1, q):
                b = inverse(a, q)
                self.assertTrue(0 <= b < q)
                self.assertEqual(a * b % q, 1)

    def test_below_zero_and_beyond(self):
        for q in ORDERS:
            for a in list(range(-2 * q, 0)) + list(range(q, 3 * q)):
                if a % q:
                    self.assertEqual(inverse(a, q), inverse(a % q, q))

    def test_fifty_digits(self):
        numbers = random.Random(1)
        for q in ORDERS:
            for _ in range(20):
                a = numbers.randrange(10 ** 49, 10 ** 50) * numbers.choice((1, -1))
                if a % q:
                    b = inverse(a, q)
                    self.assertTrue(0 <= b < q)
                    self.assertEqual(a * b % q, 1)

    def test_no_inverse_just_for_multiples(self):
        for q in ORDERS:
            for a in range(-2 * q, 2 * q + 1):
                self.assertEqual(raised_by(inverse, a, q), None if a % q else NoInverse)
            for times in (10 ** 49 + 1, -10 ** 49):
                self.assertEqual(raised_by(inverse, times * q, q), NoInverse)
                self.assertEqual(raised_by(inverse, times * q + 1, q), None)

    def test_by_name(self):
        self.assertEqual(inverse(q=7, a=3), 5)


class Polynomials(unittest.TestCase):
    def test_values(self):
        for q in SMALL:
            for length in range(0, 4):
                for coefficients in rows_of(q, length):
                    for x in range(-q - 1, 2 * q):
                        self.assertEqual(value_at(coefficients, x, q), plain_value(coefficients, x, q))

    def test_power_zero_is_one(self):
        for q in SMALL:
            for c in range(q):
                self.assertEqual(value_at((c,), 0, q), c)
                self.assertEqual(value_at((c, 1, 2), 0, q), c)
                self.assertEqual(value_at((c, 1), q, q), c)

    def test_empty(self):
        for q in ORDERS:
            for x in (0, 1, -4, q, 10 ** 50):
                self.assertEqual(value_at((), x, q), 0)
        self.assertEqual(interpolate((), 7), ())

    def test_large_numbers(self):
        numbers = random.Random(2)
        for q in (3, 13, 127):
            for _ in range(60):
                length = numbers.randrange(1, 9)
                coefficients = tuple(numbers.randrange(-10 ** 50, 10 ** 50) for _ in range(length))
                x = numbers.randrange(-10 ** 50, 10 ** 50)
                expected = sum(c * pow(x, i, q) for i, c in enumerate(coefficients)) % q
                self.assertEqual(value_at(coefficients, x, q), expected)

    def test_by_name(self):
        self.assertEqual(value_at(q=7, x=2, coefficients=(3, 2)), 0)
        self.assertEqual(interpolate(q=7, points=((0, 3), (1, 5))), (3, 2))
        self.assertEqual(value_at((3, 2), 2, 7), 0)
        self.assertEqual(interpolate(((0, 3), (1, 5)), 7), (3, 2))


class Interpolation(unittest.TestCase):
    def test_every_small_polynomial_from_every_sequence_of_places(self):
        for q in (3, 5):
            for length in range(1, 4):
                for places in itertools.permutations(range(q), length):
                    for coefficients in rows_of(q, length):
                        points = tuple((x, plain_value(coefficients, x, q)) for x in places)
                        self.assertEqual(interpolate(points, q), coefficients)

    def test_places_and_values_of_any_size(self):
        numbers = random.Random(4)
        for q in ORDERS:
            for _ in range(4):
                length = numbers.randrange(1, min(q, 20) + 1)
                places = [
                    x + q * numbers.randrange(-10 ** 48, 10 ** 48)
                    for x in numbers.sample(range(q), length)
                ]
                values = [numbers.randrange(-10 ** 50, 10 ** 50) for _ in places]
                found = interpolate(tuple(zip(places, values)), q)
                self.assertEqual(len(found), length)
                self.assertTrue(all(0 <= c < q for c in found))
                for x, y in zip(places, values):
                    self.assertEqual(value_at(found, x, q), y % q)

    def test_near_places(self):
        self.assertEqual(interpolate(((-1, 2), (8, -1)), 7), interpolate(((6, 2), (1, 6)), 7))

    def test_as_many_coefficients_as_points(self):
        self.assertEqual(interpolate(((4, 0), (2, 0), (1, 0)), 5), (0, 0, 0))
        self.assertEqual(interpolate(((4, 3), (2, 3), (1, 3)), 5), (3, 0, 0))
        self.assertEqual(interpolate(((3, -1),), 5), (4,))

    def test_all_places_at_once(self):
        for q in (3, 7, 31, 127):
            coefficients = tuple((3 * i * i + 1) % q for i in range(q))
            points = tuple((x, plain_value(coefficients, x, q)) for x in reversed(range(q)))
            self.assertEqual(interpolate(points, q), coefficients)

    def test_equal_places(self):
        for points in (
            ((1, 2), (1, 3)),
            ((1, 2), (1, 2)),
            ((1, 2), (8, 2)),
            ((1, 2), (-6, 4)),
            ((0, 0), (7, 0)),
            ((0, 1), (3, 2), (5, 5), (3, 2)),
            ((0, 1), (3, 2), (5, 5), (3 + 7 * 10 ** 50, 2)),
            tuple((x, 0) for x in range(8)),
        ):
            with self.subTest(points):
                self.assertEqual(raised_by(interpolate, points, 7), BadPoints)
        self.assertIsNone(raised_by(interpolate, ((1, 2), (8, 2)), 5))


def plain_share_rows(q, many, need, challenge):
    """Return every share row, by trying all polynomials."""
    return {
        tuple(plain_value((challenge, *rest), i, q) for i in range(1, many + 1))
        for rest in rows_of(q, many - need)
    }


class ShareRows(unittest.TestCase):
    def test_example(self):
        self.assertEqual(share_row(7, 3, 2, 3, ((1, 5),)), (5, 0, 2))
        self.assertIs(is_share_row(7, 2, 3, (5, 0, 2)), True)
        self.assertIs(is_share_row(7, 2, 3, (5, 0, 3)), False)
        self.assertIs(is_share_row(7, 2, 4, (5, 0, 2)), False)

    def test_every_row_of_small_sizes(self):
        for q in SMALL:
            for many in range(0, min(q, 5)):
                for need in range(0, many + 1):
                    for challenge in range(q):
                        rows = plain_share_rows(q, many, need, challenge)
                        for row in rows_of(q, many):
                            self.assertIs(is_share_row(q, need, challenge, row), row in rows)

    def test_the_pins_choose_the_row(self):
        for q in (3, 5):
            for many in range(1, q):
                for need in range(0, many + 1):
                    for row in plain_share_rows(q, many, need, 2):
                        for places in itertools.permutations(range(1, many + 1), many - need):
                            pinned = tuple((place, row[place - 1]) for place in places)
                            self.assertEqual(share_row(q, many, need, 2, pinned), row)

    def test_all_needed(self):
        for q in (3, 5, 127):
            for many in (0, 1, 2, q - 1, q, q + 1, 64, 200):
                for challenge in (0, 1, q - 1):
                    self.assertEqual(share_row(q, many, many, challenge, ()), (challenge,) * many)
                    row = (challenge,) * many
                    self.assertIs(is_share_row(q, many, challenge, row), True)
                    if many:
                        other = (challenge + 1) % q
                        self.assertIs(is_share_row(q, many, other, row), False)
                        self.assertIs(is_share_row(q, many, challenge, (*row[1:], other)), False)
                        self.assertIs(is_share_row(q, many, challenge, (other, *row[1:])), False)

    def test_no_kids(self):
        for challenge in range(3):
            self.assertEqual(share_row(3, 0, 0, challenge, ()), ())
            self.assertIs(is_share_row(3, 0, challenge, ()), True)

    def test_none_needed(self):
        self.assertEqual(share_row(7, 3, 0, 1, ((2, 6), (3, 0), (1, 4))), (4, 6, 0))
        for row in rows_of(5, 3):
            self.assertIs(is_share_row(5, 0, 4, row), True)

    def test_large_orders(self):
        numbers = random.Random(6)
        for q in (31, 67, 127):
            for _ in range(12):
                many = numbers.choice((q - 1, numbers.randrange(2, min(q, 66))))
                need = numbers.randrange(max(0, many - 12), many)
                challenge = numbers.randrange(q)
                places = numbers.sample(range(1, many + 1), many - need)
                pinned = tuple((place, numbers.randrange(q)) for place in places)
                row = share_row(q, many, need, challenge, pinned)
                self.assertEqual(len(row), many)
                self.assertTrue(all(0 <= share < q for share in row))
                self.assertTrue(all(row[place - 1] == share for place, share in pinned))
                points = ((0, challenge), *enumerate(row[need:], start=need + 1))
                polynomial = interpolate(points, q)
                self.assertEqual(row, tuple(value_at(polynomial, i, q) for i in range(1, many + 1)))
                self.assertIs(is_share_row(q, need, challenge, row), True)
                at = numbers.randrange(many)
                wrong = (*row[:at], (row[at] + 1) % q, *row[at + 1:])
                self.assertIs(is_share_row(q, need, challenge, wrong), need == 0)

    def test_number_of_pins(self):
        pins = ((1, 5), (2, 6), (3, 0), (4, 1))
        for many in range(0, 5):
            for need in range(0, many + 1):
                for given in range(0, many + 1):
                    raised = raised_by(share_row, 7, many, need, 3, pins[:given])
                    self.assertEqual(raised, None if given == many - need else BadPoints)

    def test_places(self):
        for place in (0, -1, 4, 5, 7, 8, -6, 10 ** 50):
            self.assertEqual(raised_by(share_row, 7, 3, 2, 3, ((place, 5),)), BadPoints)
            self.assertEqual(raised_by(share_row, 7, 3, 1, 3, ((1, 5), (place, 5))), BadPoints)
            self.assertEqual(raised_by(share_row, 7, 3, 1, 3, ((place, 5), (3, 5))), BadPoints)
        for place in (1, 2, 3):
            self.assertIsNone(raised_by(share_row, 7, 3, 2, 3, ((place, 5),)))
            self.assertEqual(raised_by(share_row, 7, 3, 1, 3, ((place, 5), (place, 5))), BadPoints)
            self.assertEqual(raised_by(share_row, 7, 3, 1, 3, ((place, 5), (place, 4))), BadPoints)
        self.assertEqual(raised_by(share_row, 7, 3, 0, 3, ((1, 5), (2, 4), (1, 5))), BadPoints)

    def test_too_many_kids(self):
        for q in (3, 5, 7, 61):
            for many in (q - 1, q, q + 1, q + 5):
                for short in (1, 2):
                    pinned = tuple((place, 1) for place in range(1, short + 1))
                    raised = raised_by(share_row, q, many, many - short, 1, pinned)
                    self.assertEqual(raised, None if many < q else BadPoints)

    def test_by_name(self):
        self.assertEqual(share_row(pinned=((1, 5),), challenge=3, need=2, many=3, q=7), (5, 0, 2))
        self.assertIs(is_share_row(row=(5, 0, 2), challenge=3, need=2, q=7), True)


class AllRows(unittest.TestCase):
    def test_all_in_ascending_order(self):
        for q in SMALL:
            for length in range(0, 5):
                self.assertEqual(list(all_rows(q, length)), rows_of(q, length))
        self.assertEqual(list(all_rows(127, 1)), [(i,) for i in range(127)])

    def test_length_zero(self):
        for q in ORDERS:
            self.assertEqual(list(all_rows(q, 0)), [()])

    def test_first_rows_at_once(self):
        rows = all_rows(127, 400)
        self.assertEqual(next(rows), (0,) * 400)
        self.assertEqual(next(rows), (0,) * 399 + (1,))
        later = list(itertools.islice(rows, 127))
        self.assertEqual(later[-2], (0,) * 398 + (1, 0))
        self.assertEqual(later[-1], (0,) * 398 + (1, 1))

    def test_two_at_a_time(self):
        first, second = all_rows(3, 2), all_rows(3, 2)
        self.assertEqual([next(first), next(second), next(first), next(second)],
                         [(0, 0), (0, 0), (0, 1), (0, 1)])

    def test_by_name(self):
        self.assertEqual(list(all_rows(length=1, q=3)), [(0,), (1,), (2,)])
