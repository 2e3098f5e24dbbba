import itertools
import random
import unittest

from hushpapers.covers import divide
from hushpapers.errors import (
    BadChallenge, BadStatement, BadTape, NotAccepted, NoWitness, OpenKey,
)
from hushpapers.ledger import make_payment, payment_claim, payment_openings, retell_payment
from hushpapers.ranges import range_claim, range_digits, range_witness
from hushpapers.runs import accepts, mimic, run_of
from hushpapers.statements import every, tape_length
from tests.ledger_samples import (
    ALL_KEYS, BIG, HIDING, KEY, KEY_3, OPEN, plain_weights, random_row, random_secret,
)
from tests.plain_runs import random_witness, with_part
from tests.plain_statements import all_witnesses
from tests.samples import raised_by, rows_of


def plain_payment(key, top, sender, receiver, opening, amount, secret, challenge):
    """Return the payment by the words of [52] and [54]."""
    q = key.group.order
    blind, blinds, rest_blinds, tape = secret
    rest = (opening[0] - amount, (opening[1] - blind) % q)
    covers = [key.cover(amount, blind)]
    for value, row in ((amount, blinds), (rest[0], rest_blinds)):
        covers.append(tuple(key.cover(d, b) for d, b in zip(range_digits(top, value), row, strict=True)))
    statement = every(key.group, (
        range_claim(key, covers[0], top, covers[1]), range_claim(key, key.cover(*rest), top, covers[2]),
    ))
    witness = (
        range_witness(key, (amount, blind), top, blinds), range_witness(key, rest, top, rest_blinds),
    )
    return (sender, receiver, *covers, run_of(key.group, statement, witness, tape, challenge))


class Claims(unittest.TestCase):
    def test_tuple(self):
        # The rest of 4 over 9 is 9: the claims about it have its digits.
        self.assertEqual(payment_claim(KEY, 1, 4, 9, (5,), (1,)), (
            "some", 2, (range_claim(KEY, 9, 1, (5,)), range_claim(KEY, 9, 1, (1,))),
        ))
        self.assertEqual(payment_claim(KEY, 0, 4, 3, (), ()), (
            "some", 2, (("some", 1, (("rows", 1, ((9,),), (3,)),)), ("some", 1, (("rows", 1, ((9,),), (5,)),))),
        ))

    def test_as_the_document_says(self):
        numbers = random.Random(1)
        for key, _ in (*ALL_KEYS, (BIG, 63)):
            group = key.group
            for top in {0, 1, 2, (group.order - 1) // 2, group.order - 1}:
                many = len(plain_weights(top))
                cover, amount = [numbers.choice(group.members) for _ in range(2)]
                rows = [tuple(numbers.choice(group.members) for _ in range(many)) for _ in range(2)]
                self.assertEqual(payment_claim(key, top, cover, amount, *rows), every(group, (
                    range_claim(key, amount, top, rows[0]),
                    range_claim(key, divide(group, cover, amount), top, rows[1]),
                )))

    def test_bad_statement(self):
        for top in (-1, 5, 6, 10 ** 59, -10 ** 59):
            self.assertEqual(raised_by(payment_claim, KEY, top, 4, 9, (3, 3), (3, 3)), BadStatement)
        for at in (0, 1):
            for row in ((), (3,), (3, 3, 3)):
                rows = [(3, 3), (3, 3)]
                rows[at] = row
                self.assertEqual(raised_by(payment_claim, KEY, 2, 4, 9, *rows), BadStatement)


class Making(unittest.TestCase):
    def test_as_the_document_says(self):
        numbers = random.Random(2)
        for key, top in (*ALL_KEYS, (BIG, 63), (KEY, 0)):
            q = key.group.order
            for value in (range(q) if q < 10 else (0, 1, 62, 63, 64, 100, 126)):
                for amount in (range(value + 1) if q < 10 else (0, 1, value // 2, value - 1, value)):
                    opening = (value, numbers.randrange(q))
                    secret = random_secret(numbers, key, top)
                    challenge = numbers.randrange(q)
                    call = (key, top, "a", "bb", opening, amount, secret)
                    if not 0 <= amount <= value or amount > top or value - amount > top:
                        self.assertEqual(raised_by(make_payment, *call, challenge=challenge), NoWitness)
                        continue
                    payment = make_payment(*call, challenge=challenge)
                    self.assertEqual(payment, plain_payment(*call, challenge))
                    statement = payment_claim(key, top, key.cover(*opening), *payment[2:5])
                    self.assertTrue(accepts(key.group, statement, payment[5]))

    def test_errors_in_their_order(self):
        good = random_secret(random.Random(3), KEY, 2)
        bad = [with_part(good, (0,), number) for number in (5, -1, 10 ** 59)]
        for at in (1, 2):
            bad += [with_part(good, (at,), row) for row in ((), (1,), (1, 2, 3), (0, 5), (-1, 0))]
        tape = good[3]
        bad += [with_part(good, (3,), row) for row in ((), tape[1:], (*tape, 0), (5, *tape[1:]), (*tape[1:], -1))]
        self.assertEqual(len(tape), 14)
        # Each opening and amount with whether amount and rest are as they must be.
        amounts = (
            ((2, 1), 0, True), ((2, 1), 2, True), ((4, 0), 2, True), ((2, 1), 3, False), ((2, 1), -1, False),
            ((4, 0), 1, False), ((4, 0), 3, False), ((0, 1), 1, False), ((1, 0), 10 ** 59, False),
            ((3, 0), 0, False), ((3, 0), 3, False), ((4, 0), -10 ** 59, False),
        )
        for (opening, amount, right), secret, challenge in itertools.product(
            amounts, (good, *bad), (0, 4, 5, -1, 10 ** 59)
        ):
            expected = None if 0 <= challenge < 5 else BadChallenge
            if secret is not good:
                expected = BadTape
            if not right:
                expected = NoWitness
            call = (make_payment, KEY, 2, "a", "b", opening, amount, secret)
            self.assertEqual(raised_by(*call, challenge=challenge), expected)


class Openings(unittest.TestCase):
    def test_of_honest_witnesses(self):
        numbers = random.Random(4)
        for key, top in ALL_KEYS:
            q = key.group.order
            many = len(plain_weights(top))
            for amount, rest in itertools.product(range(top + 1), repeat=2):
                pairs = ((amount, numbers.randrange(q)), (rest, numbers.randrange(q)))
                witness = tuple(range_witness(key, pair, top, random_row(numbers, q, many)) for pair in pairs)
                self.assertEqual(payment_openings(key, top, witness), pairs)

    def test_every_witness_opens_amount_and_rest(self):
        numbers = random.Random(5)
        for key, top in ALL_KEYS:
            group = key.group
            many = len(plain_weights(top))
            for _ in range(12):
                cover, amount = [numbers.choice(group.members) for _ in range(2)]
                rows = [tuple(numbers.choice(group.members) for _ in range(many)) for _ in range(2)]
                witness = random_witness(numbers, group, payment_claim(key, top, cover, amount, *rows))
                if witness is None:
                    self.assertFalse(key.hiding)
                    continue
                for member, opening in zip(
                    (amount, divide(group, cover, amount)), payment_openings(key, top, witness), strict=True
                ):
                    self.assertTrue(key.opens(member, *opening))
                    self.assertTrue(0 <= opening[0] <= top and 0 <= opening[1] < group.order)

    def test_every_witness_of_a_small_payment(self):
        claim = payment_claim(KEY_3, 1, 2, 4, (2,), (1,))
        witnesses = all_witnesses(KEY_3.group, claim)
        self.assertGreater(len(witnesses), 5)
        for witness in witnesses:
            amount, rest = payment_openings(KEY_3, 1, witness)
            self.assertTrue(KEY_3.opens(4, *amount) and KEY_3.opens(4, *rest))


class Retelling(unittest.TestCase):
    def test_all_balances_and_amounts(self):
        numbers = random.Random(6)
        for key, top in HIDING:
            q = key.group.order
            for value, amount in itertools.product(range(top + 1), repeat=2):
                if amount > value:
                    continue
                opening = (value, numbers.randrange(q))
                secret = random_secret(numbers, key, top)
                payment = make_payment(key, top, "a", "b", opening, amount, secret, challenge=1)
                cover = key.cover(*opening)
                told = retell_payment(key, top, cover, payment, value, amount)
                self.assertEqual(told, (opening, secret))
                for balance, other in itertools.product(range(q), range(q)):
                    call = (key, top, cover, payment, balance, other)
                    if other > balance or other > top or balance - other > top:
                        self.assertEqual(raised_by(retell_payment, *call), NoWitness)
                        continue
                    new_opening, new_secret = retell_payment(*call)
                    self.assertEqual(new_opening[0], balance)
                    self.assertEqual(key.cover(*new_opening), cover)
                    again = make_payment(key, top, "a", "b", new_opening, other, new_secret, challenge=1)
                    self.assertEqual(again, payment)

    def test_a_big_order(self):
        numbers = random.Random(7)
        secret = random_secret(numbers, BIG, 63)
        payment = make_payment(BIG, 63, "a", "b", (50, 9), 20, secret, challenge=100)
        cover = BIG.cover(50, 9)
        self.assertEqual(retell_payment(BIG, 63, cover, payment, 50, 20), ((50, 9), secret))
        opening, other = retell_payment(BIG, 63, cover, payment, 63, 1)
        self.assertEqual(make_payment(BIG, 63, "a", "b", opening, 1, other, challenge=100), payment)

    def test_errors_in_their_order(self):
        secret = random_secret(random.Random(8), KEY, 2)
        payment = make_payment(KEY, 2, "a", "b", (2, 1), 1, secret, challenge=3)
        cover = KEY.cover(2, 1)
        bad = (
            with_part(payment, (5, 1), 2), with_part(payment, (5, 1), 5), with_part(payment, (5, 2), ()),
            with_part(payment, (2,), KEY.group.multiply(payment[2], 3)), with_part(payment, (3, 0), 3),
            with_part(payment, (3, 0), 4),
        )
        pairs = (
            (2, 1, True), (0, 0, True), (4, 2, True), (2, 3, False), (2, -1, False), (4, 1, False), (4, 3, False),
            (5, 2, False), (5, 3, False), (-1, 0, False), (-1, -1, False), (10 ** 59, 1, False), (6, 4, False),
        )
        refused = 0
        for one, member, (balance, amount, right) in itertools.product((payment, *bad), (cover, 1), pairs):
            claim = payment_claim(KEY, 2, member, *one[2:5])
            expected = None
            if not accepts(KEY.group, claim, one[5]):
                refused += 1
                expected = NotAccepted
            if not right:
                expected = NoWitness
            call = (retell_payment, KEY, 2, member, one, balance, amount)
            self.assertEqual(raised_by(*call), expected)
            self.assertEqual(raised_by(retell_payment, OPEN, 2, member, one, balance, amount), OpenKey)
        self.assertGreater(refused, 100)

    def test_a_balance_that_is_no_residue(self):
        # With a greater top, amount and rest could be right.
        claim = payment_claim(KEY, 4, 9, 3, (3, 3, 3), (3, 3, 3))
        payment = ("a", "b", 3, (3, 3, 3), (3, 3, 3), mimic(KEY.group, claim, 0, (0,) * tape_length(claim)))
        self.assertIsNone(raised_by(retell_payment, KEY, 4, 9, payment, 4, 2))
        self.assertEqual(raised_by(retell_payment, KEY, 4, 9, payment, 5, 2), NoWitness)

    def test_every_payment_is_told_as_often(self):
        # All choices for the order 3 but the tape: the parts are the same for both amounts.
        found = []
        for amount in (0, 1):
            told = {}
            for blind, other, first, second in rows_of(3, 4):
                secret = (other, (first,), (second,), (1, 2, 0, 1, 0, 2, 1, 1))
                payment = make_payment(KEY_3, 1, "a", "b", (1, blind), amount, secret, challenge=2)
                parts = (KEY_3.cover(1, blind), *payment[2:5])
                told[parts] = told.get(parts, 0) + 1
            found.append(told)
        self.assertEqual(found[0], found[1])
        self.assertEqual(len(found[0]), 81)
