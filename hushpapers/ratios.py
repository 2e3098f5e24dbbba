"""Ratios: pairs (top, bottom) in lowest terms."""

from math import gcd


def ratio(top, bottom):
    """Return the ratio of top to bottom."""
    common = gcd(top, bottom)
    return top // common, bottom // common


def add_ratios(first, second):
    """Return the sum of two ratios."""
    return ratio(first[0] * second[1] + second[0] * first[1], first[1] * second[1])


def multiply_ratios(first, second):
    """Return the product of two ratios."""
    return ratio(first[0] * second[0], first[1] * second[1])


def at_most(first, second):
    """Tell whether the first ratio is not greater than the second."""
    return first[0] * second[1] <= second[0] * first[1]
