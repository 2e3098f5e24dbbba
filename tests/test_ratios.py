import random
import unittest
from fractions import Fraction

from hushpapers.ratios import add_ratios, at_most, multiply_ratios, ratio


def pair(fraction):
    return (fraction.numerator, fraction.denominator)


class Ratios(unittest.TestCase):
    def test_lowest_terms(self):
        for top in range(0, 40):
            for bottom in range(1, 40):
                with self.subTest(top=top, bottom=bottom):
                    self.assertEqual(ratio(top, bottom), pair(Fraction(top, bottom)))

    def test_kind(self):
        self.assertIsInstance(ratio(4, 6), tuple)
        self.assertIsInstance(add_ratios((1, 2), (1, 3)), tuple)
        self.assertIsInstance(multiply_ratios((1, 2), (1, 3)), tuple)
        self.assertIs(at_most((1, 3), (1, 2)), True)
        self.assertIs(at_most((1, 2), (1, 3)), False)

    def test_zero(self):
        for bottom in (1, 2, 7, 10 ** 59):
            self.assertEqual(ratio(0, bottom), (0, 1))
        self.assertEqual(add_ratios((0, 1), (0, 1)), (0, 1))
        self.assertEqual(add_ratios((0, 1), (2, 3)), (2, 3))
        self.assertEqual(multiply_ratios((0, 1), (2, 3)), (0, 1))
        self.assertEqual(multiply_ratios((2, 3), (0, 1)), (0, 1))

    def test_small_sums_products_and_comparisons(self):
        fractions = [Fraction(top, bottom) for top in range(0, 9) for bottom in range(1, 8)]
        for a in fractions:
            for b in fractions:
                self.check(a, b)

    def test_large_numbers(self):
        numbers = random.Random(5)
        common = 10 ** 24 + 7
        for _ in range(300):
            a, b = [
                Fraction(numbers.randrange(10 ** 50), numbers.randrange(1, 10 ** 50)) for _ in "ab"
            ]
            self.check(a, b)
            self.assertEqual(ratio(a.numerator * common, a.denominator * common), pair(a))

    def test_neighbours_of_fifty_digits(self):
        n = 10 ** 50
        self.assertIs(at_most((n, n + 1), (n + 1, n + 2)), True)
        self.assertIs(at_most((n + 1, n + 2), (n, n + 1)), False)
        self.assertIs(at_most((n, n + 1), (n, n + 1)), True)
        self.assertEqual(add_ratios((1, n), (1, n)), (1, n // 2))
        self.assertEqual(multiply_ratios((n, n + 1), (n + 1, n)), (1, 1))

    def test_by_name(self):
        self.assertEqual(ratio(bottom=6, top=4), (2, 3))
        self.assertEqual(add_ratios(second=(1, 2), first=(1, 3)), (5, 6))
        self.assertEqual(multiply_ratios(second=(1, 2), first=(1, 3)), (1, 6))
        self.assertIs(at_most(second=(1, 2), first=(1, 3)), True)

    def check(self, a, b):
        self.assertEqual(add_ratios(pair(a), pair(b)), pair(a + b))
        self.assertEqual(multiply_ratios(pair(a), pair(b)), pair(a * b))
        self.assertIs(at_most(pair(a), pair(b)), a <= b)
        self.assertIs(at_most(pair(b), pair(a)), b <= a)
        self.assertIs(at_most(pair(a), pair(a)), True)
