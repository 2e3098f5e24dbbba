"""The names, parameters and places that the section on the interface lists."""

import importlib
import inspect
import unittest

from hushpapers.covers import Key
from hushpapers.groups import PowerGroup
from tests.samples import table_group

FUNCTIONS = {
    "residues": (
        "is_prime(n)", "inverse(a, q)", "value_at(coefficients, x, q)", "interpolate(points, q)",
        "share_row(q, many, need, challenge, pinned)", "is_share_row(q, need, challenge, row)",
        "all_rows(q, length)",
    ),
    "ratios": (
        "ratio(top, bottom)", "add_ratios(first, second)", "multiply_ratios(first, second)",
        "at_most(first, second)",
    ),
    "linear": (
        "reduced(q, width, rows)", "rank(q, width, rows)", "kernel(q, width, rows)",
        "solve(q, width, rows, targets)", "is_fixed(q, width, rows, form)",
    ),
    "covers": (
        "add_openings(q, first, second)", "subtract_openings(q, first, second)",
        "divide(group, first, second)",
    ),
    "statements": (
        "leaf(group, width, matrix, targets)", "at_least(group, need, kids)", "every(group, kids)",
        "either(group, kids)", "depth(statement)", "leaf_count(statement)", "tape_length(statement)",
        "holds(group, statement)", "fits(group, statement, witness)", "find_witness(group, statement)",
        "count_witnesses(group, statement)", "active_part(statement, witness)", "ways(statement)",
    ),
}

METHODS = {
    ("groups", "Group"): (
        "power(self, element, exponent)", "inverse_of(self, element)", "log(self, base, element)",
        "combine(self, factors, exponents)", "has(self, value)",
        "carried(self, element, base, other, other_base)",
    ),
    ("groups", "PowerGroup"): ("__init__(self, modulus, order)", "multiply(self, first, second)"),
    ("groups", "TableGroup"): ("__init__(self, table)", "multiply(self, first, second)"),
    ("covers", "Key"): (
        "__init__(self, group, base, blind_base)", "cover(self, value, blind)",
        "opens(self, cover, value, blind)", "blind_for(self, cover, value)",
        "count_openings(self, cover, value)", "relation_from(self, first, second)",
    ),
}


def module(name):
    return importlib.import_module("hushpapers." + name)


class Interface(unittest.TestCase):
    def check(self, function, written, name):
        self.assertEqual(function.__name__ + str(inspect.signature(function)), written)
        self.assertEqual(function.__module__, "hushpapers." + name)

    def test_functions(self):
        for name, lines in FUNCTIONS.items():
            for written in lines:
                with self.subTest(written):
                    self.check(getattr(module(name), written.split("(")[0]), written, name)

    def test_methods(self):
        for (name, class_name), lines in METHODS.items():
            one = getattr(module(name), class_name)
            self.assertEqual(one.__module__, "hushpapers." + name)
            for written in lines:
                with self.subTest(written):
                    self.check(vars(one)[written.split("(")[0]], written, name)

    def test_all_rows_yields(self):
        self.assertTrue(inspect.isgeneratorfunction(module("residues").all_rows))

    def test_attributes(self):
        for group, names in (
            (PowerGroup(11, 5), ("order", "unit", "members", "modulus")),
            (table_group((2, 0, 1)), ("order", "unit", "members", "table")),
        ):
            for name in names:
                self.assertIn(name, vars(group))
        key = Key(PowerGroup(11, 5), 3, 9)
        for name in ("group", "base", "blind_base"):
            self.assertIn(name, vars(key))
