import itertools
import random
import unittest

from hushpapers.covers import Key, divide
from hushpapers.errors import (
    BadStatement, DoubleName, Refused, UnknownName, WrongCoin,
)
from hushpapers.ledger import Ledger, make_payment, payment_claim
from hushpapers.runs import answerable, mimic
from hushpapers.statements import holds, tape_length
from tests.ledger_samples import (
    ALL_KEYS, BIG, G127, KEY, KEY_3, OPEN, TABLE_KEY, random_ledger, random_secret, state_of,
)
from tests.plain_runs import with_part
from tests.samples import plain_combine, raised_by


def small_ledger(key=KEY, top=2):
    ledger = Ledger(key, top)
    ledger.issue("a", 1, 1)
    ledger.issue("b", 1, 0)
    ledger.issue("c", 0, 3)
    return ledger


def expected_error(ledger, payment, coin):
    """Return the error of [52] for a payment that is right but for what the tests change."""
    sender, receiver, _, _, _, run = payment
    if sender not in ledger.names or receiver not in ledger.names:
        return UnknownName
    if sender == receiver:
        return Refused
    return WrongCoin if run[1] != coin else None


class Making(unittest.TestCase):
    def test_tops(self):
        for key, below in ((KEY, 2), (OPEN, 2), (KEY_3, 1), (TABLE_KEY, 2), (BIG, 63)):
            for top in range(below + 1):
                ledger = Ledger(key, top)
                self.assertEqual((ledger.key, ledger.top), (key, top))
                self.assertEqual(state_of(ledger), ((), 0, (), (0, 0), key, top, (), key.group.unit))
            for top in (below + 1, below + 2, key.group.order, -1, -2, 10 ** 59, -10 ** 59):
                self.assertEqual(raised_by(Ledger, key, top), BadStatement)

    def test_ledgers_are_apart(self):
        first, second = Ledger(KEY, 2), Ledger(KEY, 2)
        first.issue("a", 1, 1)
        self.assertEqual(len(second), 0)
        self.assertEqual(second.names, ())


class Issuing(unittest.TestCase):
    def test_record_and_cover(self):
        ledger = Ledger(KEY, 2)
        self.assertIsNone(ledger.issue("bob", 1, 4))
        self.assertEqual(tuple(ledger), (("issue", "bob", 1, 4),))
        self.assertIsNone(ledger.issue("ann", 0, 3))
        self.assertIsNone(ledger.issue("z", 1, 0))
        self.assertEqual(tuple(ledger), (
            ("issue", "bob", 1, 4), ("issue", "ann", 0, 3), ("issue", "z", 1, 0),
        ))
        self.assertEqual(len(ledger), 3)
        self.assertEqual(ledger.names, ("bob", "ann", "z"))
        self.assertEqual(ledger.issued, (2, 2))
        self.assertEqual(ledger.cover_of("bob"), KEY.cover(1, 4))
        self.assertEqual(ledger.cover_of("ann"), KEY.cover(0, 3))
        self.assertEqual([record[1] for record in ledger], ["bob", "ann", "z"])

    def test_errors_and_their_order(self):
        for key, top in ALL_KEYS:
            q = key.group.order
            ledger = Ledger(key, top)
            ledger.issue("a", top - 1, q - 1)
            before = state_of(ledger)
            values = (0, 1, 2, 3, q - 1, q, -1, 10 ** 59, -10 ** 59)
            for name, value, blind in itertools.product(("a", "b"), values, values):
                expected = None
                if not 0 <= value < q or not 0 <= blind < q or top - 1 + value > top:
                    expected = Refused
                if name == "a":
                    expected = DoubleName
                if expected is not None:
                    self.assertEqual(raised_by(ledger.issue, name, value, blind), expected)
                    self.assertEqual(state_of(ledger), before)
            self.assertIsNone(raised_by(ledger.issue, "b", 1, 0))
            self.assertEqual(raised_by(ledger.issue, "c", 1, 0), Refused)
            self.assertIsNone(raised_by(ledger.issue, "c", 0, 0))
            self.assertEqual(ledger.issued, (top, q - 1))

    def test_top_zero(self):
        ledger = Ledger(KEY, 0)
        self.assertEqual(raised_by(ledger.issue, "a", 1, 0), Refused)
        ledger.issue("a", 0, 2)
        ledger.issue("b", 0, 4)
        payment = make_payment(KEY, 0, "a", "b", (0, 2), 0, (3, (), (), (1, 2)), challenge=4)
        ledger.post(payment, coin=4)
        self.assertEqual(ledger.cover_of("b"), KEY.cover(0, 2))


class Posting(unittest.TestCase):
    def test_record_and_covers(self):
        numbers = random.Random(1)
        for key, top in ALL_KEYS:
            if top < 2:
                continue
            ledger = small_ledger(key, top)
            secret = random_secret(numbers, key, top)
            payment = make_payment(key, top, "a", "c", (1, 1), 1, secret, challenge=2)
            self.assertIsNone(ledger.post(payment, coin=2))
            self.assertEqual(tuple(ledger)[3], ("pay", *payment))
            self.assertEqual(len(ledger), 4)
            q = key.group.order
            self.assertEqual(ledger.cover_of("a"), key.cover(0, 1 - secret[0]))
            self.assertEqual(ledger.cover_of("c"), key.cover(1, 3 + secret[0]))
            self.assertEqual(ledger.cover_of("b"), key.cover(1, 0))
            self.assertEqual(ledger.names, ("a", "b", "c"))
            self.assertEqual(ledger.issued, (2, 4 % q))
            if payment[2] != key.group.unit:
                # The same payment again: the sender's cover is another one now.
                self.assertEqual(raised_by(ledger.post, payment, coin=2), Refused)

    def test_each_pair_of_errors_in_its_order(self):
        good = make_payment(
            KEY, 2, "a", "b", (1, 1), 1, random_secret(random.Random(2), KEY, 2), challenge=3
        )
        self.assertIsNone(raised_by(small_ledger().post, good, coin=3))
        run = good[5]
        refused = [
            with_part(good, (2,), cover) for cover in (0, 2, 11, -1, 10 ** 59, KEY.group.multiply(good[2], 3))
        ]
        for at in (3, 4):
            digits = good[at]
            for row in ((), digits[:1], (*digits, digits[0]), (digits[0], 2), (0, digits[1]), digits[::-1]):
                if row != digits:
                    refused.append(with_part(good, (at,), row))
        refused += [with_part(good, (5, 0), ()), with_part(good, (5, 2), ()), with_part(good, (5, 0, 0), 3)]
        refused.append(with_part(good, (5, 2, 0), (run[2][0][1], 4)))
        refused.append(with_part(good, (5, 1), 5))
        refused.append(with_part(good, (5, 1), ()))
        refused.append(with_part(good, (5, 1), -1))
        ledger = small_ledger()
        before = state_of(ledger)
        for payment, sender, receiver, right in itertools.product(
            (good, *refused), ("a", "b", "c", "x"), ("a", "b", "y"), (True, False)
        ):
            changed = (sender, receiver, *payment[2:])
            coin = payment[5][1] if right else 2
            expected = expected_error(ledger, changed, coin)
            if expected is None and payment == good and sender == "a":
                continue
            self.assertEqual(raised_by(ledger.post, changed, coin=coin), expected or Refused)
            self.assertEqual(state_of(ledger), before)
        self.assertIsNone(raised_by(ledger.post, good, coin=3))

    def test_coins(self):
        ledger = small_ledger()
        for challenge in range(5):
            payment = make_payment(
                KEY, 2, "a", "b", (1, 1), 1, random_secret(random.Random(3), KEY, 2), challenge=challenge
            )
            for coin in (-1, 0, 1, 2, 3, 4, 5, challenge + 5, challenge - 5):
                if coin != challenge:
                    self.assertEqual(raised_by(ledger.post, payment, coin=coin), WrongCoin)

    def test_total_cover_whatever_is_posted(self):
        numbers = random.Random(4)
        for key, top in (*ALL_KEYS, (BIG, 63)):
            source = random_ledger(numbers, key, top, 4, 6)
            ledger = Ledger(key, top)
            for record in source:
                if record[0] == "issue":
                    ledger.issue(*record[1:])
                else:
                    ledger.post(record[1:], coin=record[6][1])
                covers = [ledger.cover_of(name) for name in ledger.names]
                self.assertEqual(ledger.total_cover(), plain_combine(key.group, covers, [1] * len(covers)))
                self.assertEqual(ledger.total_cover(), key.cover(*ledger.issued))
            self.assertEqual(state_of(ledger), state_of(source))

    def test_an_account_that_cannot_pay(self):
        # For an open key each cover has one value; a payment that is no payment passes for one coin.
        for amount in range(5):
            ledger = small_ledger(OPEN)
            covers = [OPEN.cover(value, 0) for value in range(5)]
            taken = set()
            for digits in itertools.product((covers[0], covers[1], covers[2]), repeat=4):
                parts = (covers[amount], digits[:2], digits[2:])
                statement = payment_claim(OPEN, 2, ledger.cover_of("a"), *parts)
                true = holds(OPEN.group, statement)
                taken.add(true)
                if true:
                    self.assertIn(amount, (0, 1))
                    continue
                start, challenge, answer = mimic(OPEN.group, statement, 1, (2,) * tape_length(statement))
                self.assertEqual(answerable(OPEN.group, statement, start), (1,))
                before = state_of(ledger)
                for coin in (0, 2, 3, 4):
                    payment = ("a", "b", *parts, (start, coin, answer))
                    self.assertEqual(raised_by(ledger.post, payment, coin=coin), Refused)
                self.assertEqual(state_of(ledger), before)
            self.assertEqual(taken, {True, False} if amount <= 1 else {False})
            payment = ("a", "b", *parts, (start, challenge, answer))
            self.assertIsNone(raised_by(ledger.post, payment, coin=1))
            rest = divide(OPEN.group, OPEN.cover(1, 0), covers[amount])
            self.assertEqual(ledger.cover_of("a"), rest)


class Asking(unittest.TestCase):
    def test_cover_of(self):
        ledger = small_ledger()
        for name in ("x", "", "ab", "A"):
            self.assertEqual(raised_by(ledger.cover_of, name), UnknownName)
        self.assertEqual(raised_by(Ledger(KEY, 1).cover_of, "a"), UnknownName)

    def test_audit(self):
        openings = {"a": (1, 1), "b": (1, 0), "c": (0, 3)}
        for key in (KEY, OPEN, TABLE_KEY):
            ledger = small_ledger(key)
            for many in range(4):
                for names in itertools.permutations("abc", many):
                    value = sum(openings[name][0] for name in names)
                    blind = sum(openings[name][1] for name in names)
                    cover = key.cover(value, blind)
                    for v, b in itertools.product((value, value + 1, value - 5, 10 ** 50, -3), (blind, 4, -10 ** 50)):
                        self.assertIs(ledger.audit(names, v, b), key.cover(v, b) == cover)
                    self.assertIs(ledger.audit(names, value, blind), True)

    def test_audit_of_unknown_names(self):
        ledger = small_ledger()
        for names in (("x",), ("a", "x"), ("x", "a"), ("a", "b", "c", "d"), ("",)):
            self.assertEqual(raised_by(ledger.audit, names, 0, 0), UnknownName)
        self.assertIs(Ledger(KEY, 2).audit((), 0, 0), True)
        self.assertIs(Ledger(KEY, 2).audit((), 1, 0), False)

    def test_reading_changes_nothing(self):
        ledger = small_ledger()
        before = state_of(ledger)
        list(ledger).append(0)
        self.assertEqual(state_of(ledger), before)
        self.assertIsInstance(ledger.names, tuple)
        self.assertIsInstance(ledger.issued, tuple)

    def test_shortened(self):
        numbers = random.Random(5)
        ledger = random_ledger(numbers, KEY, 2)
        records = tuple(ledger)
        before = state_of(ledger)
        for many in range(len(records) + 1):
            shorter = ledger.shortened(many)
            again = Ledger(KEY, 2)
            for record in records[:many]:
                if record[0] == "issue":
                    again.issue(*record[1:])
                else:
                    again.post(record[1:], coin=record[6][1])
            self.assertEqual(state_of(shorter), state_of(again))
            self.assertEqual(shorter.payments(), ledger.payments()[:max(0, many - 3)])
        shorter.issue("new", 0, 0)
        self.assertEqual(state_of(ledger), before)

    def test_big_orders(self):
        ledger = Ledger(Key(G127, G127.members[5], G127.members[9]), 63)
        ledger.issue("a", 63, 126)
        self.assertEqual(raised_by(ledger.issue, "b", 1, 0), Refused)
        self.assertEqual(ledger.issued, (63, 126))
