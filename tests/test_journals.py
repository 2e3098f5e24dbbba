import random
import unittest

from hushpapers.errors import BadStatement, BadText, DoubleName, HushError, Refused, UnknownName
from hushpapers.ledger import Ledger, hold_ledger, read_journal, write_journal
from hushpapers.notation import read_nested, write_nested
from tests.ledger_samples import ALL_KEYS, BIG, KEY, random_secret, random_steps, state_of
from tests.plain_runs import part_at, places_in, with_part
from tests.run_samples import deep
from tests.samples import raised_by


def is_row(value):
    return isinstance(value, tuple) and all(isinstance(item, int) for item in value)


def is_name(value):
    return is_row(value) and 1 <= len(value) <= 8 and all(ord("a") <= code <= ord("z") for code in value)


def has_form(record):
    """Tell whether a nested value is a record by the words of [56]."""
    if not isinstance(record, tuple) or len(record) not in (4, 7) or record[0] not in (0, 1):
        return False
    if len(record) == 4:
        return record[0] == 0 and is_name(record[1]) and is_row(record[2:])
    if record[0] != 1 or not is_name(record[1]) or not is_name(record[2]):
        return False
    numbers = isinstance(record[3], int) and is_row(record[4]) and is_row(record[5])
    return numbers and isinstance(record[6], tuple) and len(record[6]) == 3


def enter(ledger, record):
    """Do what a record of the right form says."""
    def name(codes):
        return "".join(map(chr, codes))

    if record[0] == 0:
        ledger.issue(name(record[1]), record[2], record[3])
    else:
        payment = (name(record[1]), name(record[2]), *record[3:])
        ledger.post(payment, coin=record[6][1])


def plain_read(key, top, value):
    """Return the ledger, or the class of the error, that the nested value gives."""
    ledger = Ledger(key, top)
    if not isinstance(value, tuple):
        return Refused
    for record in value:
        if not has_form(record):
            return Refused
        try:
            enter(ledger, record)
        except HushError as error:
            return error.__class__
    return ledger


def sample_steps():
    secret = random_secret(random.Random(1), KEY, 2)
    return (("issue", "ab", 2, 4), ("issue", "z", 0, 1), ("pay", "ab", "z", 1, secret, 3))


def sample_value():
    return read_nested(write_journal(hold_ledger(KEY, 2, sample_steps())))


class Writing(unittest.TestCase):
    def test_examples(self):
        ledger = Ledger(KEY, 2)
        self.assertEqual(write_journal(ledger), "()")
        ledger.issue("bob", 1, 4)
        self.assertEqual(write_journal(ledger), "((0 (98 111 98) 1 4))")
        ledger.issue("azazazaz", 0, 0)
        self.assertEqual(
            write_journal(ledger), "((0 (98 111 98) 1 4) (0 (97 122 97 122 97 122 97 122) 0 0))"
        )
        ledger = hold_ledger(KEY, 2, sample_steps())
        record = tuple(ledger)[2]
        self.assertEqual(
            write_journal(ledger),
            "((0 (97 98) 2 4) (0 (122) 0 1) (1 (97 98) (122) "
            + " ".join(write_nested(part) for part in record[3:]) + "))",
        )

    def test_read_back_record_by_record(self):
        numbers = random.Random(2)
        for key, top in (*ALL_KEYS, (BIG, 63)):
            steps, _ = random_steps(numbers, key, top, 4, 5)
            for many in range(len(steps) + 1):
                ledger = hold_ledger(key, top, steps[:many])
                text = write_journal(ledger)
                found = read_journal(key, top, text)
                self.assertEqual(state_of(found), state_of(ledger))
                self.assertEqual(write_journal(found), text)


class Reading(unittest.TestCase):
    def check(self, value, top=2):
        expected = plain_read(KEY, top, value)
        text = write_nested(value)
        if isinstance(expected, Ledger):
            self.assertEqual(state_of(read_journal(KEY, top, text)), state_of(expected))
        else:
            self.assertEqual(raised_by(read_journal, KEY, top, text), expected, text)
        return expected

    def test_every_part_changed(self):
        value = sample_value()
        seen = {}
        parts = (0, 1, 2, 3, 5, 11, 96, 97, 122, 123, 999999999, (), (0,), (97,), (97, 98), (3, 1), (3, (1,)), ((), 3, ()),
                 deep(3), (97,) * 8, (97,) * 9)
        for path in places_in(value):
            for part in parts:
                found = self.check(with_part(value, path, part))
                seen[found if found in (Refused, DoubleName, UnknownName) else None] = True
            part = part_at(value, path)
            if path and isinstance(part, tuple):
                for longer in ((*part, 0), (*part, ()), part[1:], part[:-1], part[::-1], (*part, part)):
                    self.check(with_part(value, path, longer))
        self.assertEqual(len(seen), 4)

    def test_names(self):
        issue = (0, (97,), 0, 0)
        for codes in ((97,), (122,), (97,) * 8, (97, 122, 109)):
            self.assertIsInstance(self.check((with_part(issue, (1,), codes),)), Ledger)
            ledger = read_journal(KEY, 2, write_nested((with_part(issue, (1,), codes),)))
            self.assertEqual(ledger.names, ("".join(map(chr, codes)),))
        for codes in (
            (), (97,) * 9, (96,), (123,), (65,), (0,), (32,), (97, 96), (97, 123), (999999999,), (97, 225),
            97, 0, ((97,),), (97, (98,)), ((),),
        ):
            self.assertIs(self.check((with_part(issue, (1,), codes),)), Refused)
            payment = sample_value()[2]
            for at in (1, 2):
                # Refused comes before UnknownName.
                self.assertIs(self.check((with_part(payment, (at,), codes),)), Refused)

    def test_marks_and_lengths(self):
        first, second, payment = sample_value()
        for record in (
            0, 1, (), (0,), (1,), (0, (97,), 0), (0, (97,), 0, 0, 0), (1, (97,), 0, 0), (2, (97,), 0, 0),
            ((), (97,), 0, 0), ((0,), (97,), 0, 0), (0, *payment[1:]), (2, *payment[1:]), payment[:6],
            (*payment, 0), (*payment[:6], payment[6][:2]), (*payment[:6], (*payment[6], 0)), (*payment[:6], 3),
            (*payment[:6], ()),
        ):
            self.assertIs(self.check((first, second, record)), Refused)
            self.assertIs(self.check((record, first, second)), Refused)

    def test_a_journal_that_is_a_number(self):
        for number in (0, 1, 7, 999999999):
            self.assertEqual(raised_by(read_journal, KEY, 2, str(number)), Refused)
        self.assertEqual(len(read_journal(KEY, 2, "()")), 0)

    def test_the_first_record_that_fails(self):
        first, second, payment = sample_value()
        wrong = (0, (), 0, 0)
        unknown = with_part(payment, (1,), (120,))
        for records, expected in (
            ((first, first, wrong), DoubleName), ((first, wrong, first), Refused), ((wrong, first, first), Refused),
            ((first, unknown, first), UnknownName), ((payment,), UnknownName), ((first, payment), UnknownName),
            ((first, second, with_part(payment, (2,), payment[1])), Refused),
            ((first, second, with_part(payment, (6, 1), 5)), Refused),
            ((first, second, with_part(payment, (6, 1), ())), Refused),
            ((first, second, with_part(payment, (6, 1), 2)), Refused),
            ((with_part(first, (2,), 3),), Refused), ((with_part(first, (2,), 999999999),), Refused),
            ((with_part(first, (3,), 5),), Refused),
        ):
            self.assertIs(plain_read(KEY, 2, records), expected)
            self.assertIs(self.check(records), expected)
        # A name that is known comes before a value that is no residue.
        self.assertIs(self.check((first, with_part(first, (2,), 999999999))), DoubleName)

    def test_the_form_comes_before_the_names(self):
        first, second, payment = sample_value()
        for path in ((2,), (3,)):
            for part in ((), (1,), ((),)):
                self.assertIs(self.check((first, with_part(first, path, part))), Refused)
        unknown = with_part(payment, (1,), (120,))
        for at, parts in ((3, ((), (3,))), (4, (3, ((), 3), ((3,), (3,)))), (5, (0, (3, ())))):
            for part in parts:
                self.assertIs(self.check((first, second, with_part(unknown, (at,), part))), Refused)
        for run in (0, (), (1, 2), (1, 2, 3, 4)):
            self.assertIs(self.check((first, second, with_part(unknown, (6,), run))), Refused)
        # How many digits there are, and what the run is, comes behind the names.
        for at, part in ((3, 999999999), (4, ()), (5, (0, 0, 0)), (6, ((), (), ()))):
            self.assertIs(self.check((first, second, with_part(unknown, (at,), part))), UnknownName)

    def test_texts(self):
        text = write_nested(sample_value())
        for wrong, at in (("", 0), ("(", 1), (text + " ", len(text)), (" " + text, 0), (text[:-1], len(text) - 1),
                          ("((0 (98)  1 4))", 9), ("((0 (098) 1 4))", 6), ("((0 (98) 1000000000 4))", 18), ("x", 0)):
            with self.assertRaises(BadText) as caught:
                read_journal(KEY, 2, wrong)
            self.assertEqual(caught.exception.at, at)

    def test_bad_statement_before_all(self):
        for text in ("", "7", "()", "(0)", write_nested(sample_value())):
            for top in (3, -1, 10 ** 59):
                self.assertEqual(raised_by(read_journal, KEY, top, text), BadStatement)

    def test_other_tops(self):
        # The digits of the top 1 are fewer: the payment is refused, and so is the value 2.
        first, second, payment = sample_value()
        self.assertIs(self.check((with_part(first, (2,), 1), second, payment), 1), Refused)
        self.assertIs(self.check((first,), 1), Refused)
        self.assertIsInstance(self.check((second,), 0), Ledger)
