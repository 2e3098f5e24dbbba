import itertools
import random
import re
import unittest

from hushpapers.errors import BadText
from hushpapers.groups import PowerGroup
from hushpapers.notation import digest, drawn_residues, plain_statement, read_nested, write_nested
from hushpapers.statements import at_least, either, every, leaf
from tests.run_samples import EXAMPLE, deep
from tests.samples import raised_by

G5 = PowerGroup(11, 5)
NUMBER = re.compile(r"(?<![0-9])(0|[1-9][0-9]{0,8})(?![0-9])")
TUPLE = re.compile(r"\((v( v)*)?\)")


def is_written(text):
    """Tell whether the text is a written form, by taking its values away level by level."""
    if not set(text) <= set("0123456789() "):
        return False
    text = NUMBER.sub("v", text)
    for _ in range(20):
        text = TUPLE.sub("v", text)
    return text == "v"


def can_go_on(text, known):
    """Tell whether some written form begins with the text."""
    if text not in known:
        # What closes all levels at once, perhaps behind one more number, goes on as well as anything.
        known[text] = any(
            is_written(text + middle + ")" * levels)
            for middle in ("", "0") for levels in range(text.count("(") + 1)
        )
    return known[text]


def least_wrong(text, known):
    """Return the index of [48], or None if the text is a written form."""
    if is_written(text):
        return None
    for i in range(len(text)):
        if not can_go_on(text[:i + 1], known):
            return i
    return len(text)


def wrong_at(text):
    try:
        read_nested(text)
    except BadText as error:
        return error.at
    return None


def random_value(numbers, levels):
    if levels == 0 or numbers.randrange(3) == 0:
        return numbers.choice((0, 7, 10, 999999999, 100000000, numbers.randrange(10 ** 9)))
    return tuple(random_value(numbers, levels - 1) for _ in range(numbers.randrange(4)))


class Writing(unittest.TestCase):
    def test_examples(self):
        self.assertEqual(write_nested((1, (2, 30), ())), "(1 (2 30) ())")
        self.assertEqual(write_nested(0), "0")
        self.assertEqual(write_nested(999999999), "999999999")
        self.assertEqual(write_nested(()), "()")
        self.assertEqual(write_nested((5,)), "(5)")
        self.assertEqual(write_nested(((), ((),))), "(() (()))")
        self.assertEqual(write_nested(deep(19)), "(" * 20 + ")" * 20)

    def test_read_undoes_write(self):
        numbers = random.Random(1)
        for _ in range(400):
            value = random_value(numbers, 5)
            text = write_nested(value)
            self.assertTrue(is_written(text))
            self.assertEqual(read_nested(text), value)
        for levels in range(20):
            for inner in ((), (4,), (0, 10)):
                value = deep(levels, inner)
                self.assertEqual(read_nested(write_nested(value)), value)


class Reading(unittest.TestCase):
    def test_examples(self):
        self.assertEqual(read_nested("(1 (2 30) ())"), (1, (2, 30), ()))
        for text, at in (("07", 1), ("(1 )", 3), ("(1", 2), ("", 0)):
            self.assertEqual(wrong_at(text), at)

    def test_numbers(self):
        self.assertEqual(read_nested("0"), 0)
        self.assertEqual(read_nested("999999999"), 999999999)
        self.assertEqual(read_nested("(100000000 999999999)"), (100000000, 999999999))
        for text, at in (
            ("1000000000", 9), ("9999999999", 9), ("12345678901234", 9), ("(1 1000000000)", 12), ("00", 1),
            ("(00)", 2), ("(0 07 1)", 4), ("0123456789", 1), ("-1", 0), ("+1", 0), ("1.", 1), ("1_0", 1),
            ("7" * 5000, 9),
        ):
            self.assertEqual(wrong_at(text), at)

    def test_levels(self):
        for levels in range(1, 21):
            self.assertIsNone(wrong_at("(" * levels + ")" * levels))
            self.assertIsNone(wrong_at("(" * levels + "1 2" + ")" * levels))
        for levels in (21, 22, 40, 3000):
            self.assertEqual(wrong_at("(" * levels + ")" * levels), 20)
            self.assertEqual(wrong_at("(" * levels), 20)
        self.assertEqual(wrong_at("(" * 20), 20)
        self.assertEqual(wrong_at("(" * 20 + ")" * 19), 39)
        self.assertEqual(wrong_at("(" * 20 + ")" * 21), 40)
        self.assertEqual(wrong_at("(() " + "(" * 20), 23)
        # Levels beside each other do not add up.
        self.assertEqual(read_nested("(" + " ".join(["(())"] * 30) + ")"), (((),),) * 30)

    def test_spaces(self):
        for text, at in (
            (" ", 0), (" 1", 0), ("1 ", 1), ("() ", 2), ("( )", 1), ("( 1)", 1), ("(1  2)", 3), ("(1 )", 3),
            ("(1 2 )", 5), ("1 2", 1), ("()()", 2), ("(1(2))", 2), ("(()())", 3), ("(() ())", None),
        ):
            self.assertEqual(wrong_at(text), at)

    def test_characters(self):
        for character in ("\n", "\t", "\x00", "!", "'", "*", ",", "-", ".", "/", ":", "a", "~", "\x7f",
                          "\xa0", "\xb2", "\xe9", "\u0663", "\uff11", "\u2007", "\U0001d7d9"):
            self.assertEqual(wrong_at(character), 0)
            self.assertEqual(wrong_at("1" + character), 1)
            self.assertEqual(wrong_at("(" + character + ")"), 1)
            self.assertEqual(wrong_at("(1" + character + "2)"), 2)
            self.assertEqual(wrong_at("(1 " + character + ")"), 3)
            self.assertEqual(wrong_at("()" + character), 2)

    def test_all_short_texts(self):
        known = {}
        for length in range(6):
            for letters in itertools.product("() 01x", repeat=length):
                text = "".join(letters)
                self.assertEqual(wrong_at(text), least_wrong(text, known), text)

    def test_changed_and_cut_texts(self):
        known = {}
        for value in ((1, (2, 30), ()), 10, 0, ((),), (0, 0), ((7, (123456789,)), 1), (((0,), 5), (), 40)):
            text = write_nested(value)
            changed = {text[:at] for at in range(len(text))}
            changed |= {text[at:] for at in range(len(text))}
            for at in range(len(text) + 1):
                for character in "() 0190~":
                    changed.add(text[:at] + character + text[at:])
                    changed.add(text[:at] + character + text[at + 1:])
                changed.add(text[:at] + text[at + 1:])
            for one in sorted(changed):
                found = wrong_at(one)
                self.assertEqual(found, least_wrong(one, known), one)
                if found is None:
                    self.assertEqual(write_nested(read_nested(one)), one)

    def test_the_error(self):
        self.assertEqual(raised_by(read_nested, "(1 2"), BadText)


class Statements(unittest.TestCase):
    def test_tuples(self):
        one = leaf(G5, 1, ((9,),), (3,))
        self.assertEqual(plain_statement(one), (0, 1, ((9,),), (3,)))
        self.assertEqual(plain_statement(leaf(G5, 0, ((), ()), (3, 1))), (0, 0, ((), ()), (3, 1)))
        self.assertEqual(plain_statement(leaf(G5, 2, (), ())), (0, 2, (), ()))
        self.assertEqual(plain_statement(every(G5, ())), (1, 0, ()))
        self.assertEqual(plain_statement(EXAMPLE), (1, 1, ((0, 1, ((9,),), (9,)), (0, 1, ((9,),), (3,)))))
        nested = at_least(G5, 0, (either(G5, (one, every(G5, ()))), one))
        self.assertEqual(plain_statement(nested), (
            1, 0, ((1, 1, ((0, 1, ((9,),), (3,)), (1, 0, ()))), (0, 1, ((9,),), (3,))),
        ))
        self.assertEqual(
            write_nested(plain_statement(EXAMPLE)), "(1 1 ((0 1 ((9)) (9)) (0 1 ((9)) (3))))"
        )

    def test_the_deepest(self):
        statement = leaf(G5, 1, ((9,),), (3,))
        for _ in range(6):
            statement = every(G5, (statement,))
        plain = plain_statement(statement)
        self.assertEqual(read_nested(write_nested((plain, ()))), (plain, ()))


class Residues(unittest.TestCase):
    def test_digest_examples(self):
        self.assertEqual(digest("a", 5), 3)
        # 131 * 131 + 97 * 131 + 98, and 228 ones of 131 each.
        self.assertEqual(digest("ab", 127), (131 * 131 + 97 * 131 + 98) % 127)
        for q in (3, 5, 7, 127):
            self.assertEqual(digest("", q), 1)

    def test_digest(self):
        numbers = random.Random(2)
        for length in (0, 1, 2, 3, 4, 5, 30, 400):
            for q in (3, 5, 13, 127):
                text = "".join(chr(numbers.randrange(32, 127)) for _ in range(length))
                whole = 131 ** length
                for at, character in enumerate(text):
                    whole += ord(character) * 131 ** (length - 1 - at)
                self.assertEqual(digest(text, q), whole % 999983 % q)

    def test_drawn_examples(self):
        self.assertEqual(drawn_residues(0, 2, 5), (3, 0))
        self.assertEqual(drawn_residues(0, 0, 5), ())
        self.assertEqual(drawn_residues(10 ** 49 + 3, 0, 5), ())
        self.assertEqual(drawn_residues(999983, 2, 5), (3, 0))

    def test_drawn(self):
        numbers = random.Random(3)
        for seed in (0, 1, 7, 999982, 999983, 999984, 10 ** 9 - 1, 10 ** 49, 10 ** 50 - 1, 123456789 ** 5):
            for q in (3, 5, 11, 127):
                many = numbers.randrange(1, 60)
                expected = []
                for step in range(1, many + 1):
                    drift = sum(48271 ** i for i in range(step))
                    state = (seed * 48271 ** step + 12345 * drift) % 999983
                    expected.append(state // 7 % q)
                self.assertEqual(drawn_residues(seed, many, q), tuple(expected))
