import itertools
import random
import unittest

from hushpapers.covers import add_openings, subtract_openings
from hushpapers.errors import (
    BadChallenge, BadStatement, BadTape, DoubleName, NotAccepted, NoWitness, OpenKey, Refused,
    UnknownName,
)
from hushpapers.ledger import (
    Ledger, hold_ledger, ledger_relation, make_payment, payment_claim, payment_openings,
    retell_ledger,
)
from hushpapers.ranges import range_witness
from tests.ledger_samples import (
    ALL_KEYS, BIG, HIDING, KEY, OPEN, random_ledger, random_secret, random_steps, state_of,
)
from tests.plain_runs import random_witness, with_part
from tests.samples import raised_by


def followed(key, steps):
    """Return the ledger and the openings after the steps, posting payment by payment."""
    q = key.group.order
    ledger = Ledger(key, (q - 1) // 2)
    openings = {}
    for step in steps:
        if step[0] == "issue":
            ledger.issue(*step[1:])
            openings[step[1]] = step[2:]
        else:
            _, sender, receiver, amount, secret, challenge = step
            payment = make_payment(
                key, ledger.top, sender, receiver, openings[sender], amount, secret, challenge=challenge
            )
            ledger.post(payment, coin=challenge)
            moved = (amount, secret[0])
            openings[sender] = subtract_openings(q, openings[sender], moved)
            openings[receiver] = add_openings(q, openings[receiver], moved)
    return ledger, openings


def allowed(balances, payments, amounts):
    """Tell whether each amount is from 0 to the balance that the amounts before it leave."""
    balances = dict(balances)
    for (sender, receiver), amount in zip(payments, amounts, strict=True):
        if not 0 <= amount <= balances[sender]:
            return False
        balances[sender] -= amount
        balances[receiver] += amount
    return True


class Holding(unittest.TestCase):
    def test_follows_the_openings(self):
        numbers = random.Random(1)
        for key, top in (*ALL_KEYS, (BIG, 63)):
            top = (key.group.order - 1) // 2
            for _ in range(3):
                steps, balances = random_steps(numbers, key, top, 4, 6)
                expected, openings = followed(key, steps)
                ledger = hold_ledger(key, top, steps)
                self.assertEqual(state_of(ledger), state_of(expected))
                for name, opening in openings.items():
                    self.assertEqual(opening[0], balances[name])
                    self.assertTrue(key.opens(ledger.cover_of(name), *opening))
        self.assertEqual(state_of(hold_ledger(KEY, 1, ())), state_of(Ledger(KEY, 1)))

    def test_errors_in_their_order(self):
        good = random_secret(random.Random(2), KEY, 2)
        bad_secrets = (
            with_part(good, (0,), 5), with_part(good, (1,), (0,)), with_part(good, (2, 1), -1),
            with_part(good, (3,), good[3][1:]),
        )
        first = (("issue", "a", 1, 2), ("issue", "b", 1, 0))
        for sender, receiver, amount, secret, challenge, top in itertools.product(
            ("a", "b", "x"), ("a", "b", "y"), (0, 1, 2, -1), (good, *bad_secrets), (0, 4, 5, -1), (2, 3, -1)
        ):
            expected = None if 0 <= challenge < 5 else BadChallenge
            if secret is not good:
                expected = BadTape
            if amount not in (0, 1):
                expected = NoWitness
            if sender == receiver:
                expected = Refused
            if sender == "x" or receiver == "y":
                expected = UnknownName
            if top != 2:
                expected = BadStatement
            steps = (*first, ("pay", sender, receiver, amount, secret, challenge), ("issue", "a", 9, 9))
            self.assertEqual(raised_by(hold_ledger, KEY, top, steps), expected or DoubleName)
            if expected is None:
                self.assertIsNone(raised_by(hold_ledger, KEY, top, steps[:3]))

    def test_errors_of_issues(self):
        for steps, expected in (
            ((("issue", "a", 1, 2), ("issue", "a", 5, 5)), DoubleName),
            ((("issue", "a", 1, 5), ("issue", "a", 0, 0)), Refused),
            ((("issue", "a", 5, 0),), Refused),
            ((("issue", "a", 2, 0), ("issue", "b", 1, 0)), Refused),
            ((("issue", "a", 2, 0), ("issue", "b", 0, 0)), None),
        ):
            self.assertEqual(raised_by(hold_ledger, KEY, 2, steps), expected)
            for top in (-1, 3, 10 ** 59):
                self.assertEqual(raised_by(hold_ledger, KEY, top, steps), BadStatement)

    def test_the_sender_of_what_was_received(self):
        numbers = random.Random(3)
        steps = [("issue", "a", 2, 4), ("issue", "b", 0, 1)]
        for sender, receiver, amount in (("a", "b", 2), ("b", "a", 1), ("b", "a", 1), ("a", "b", 2)):
            steps.append(("pay", sender, receiver, amount, random_secret(numbers, KEY, 2), 1))
        self.assertEqual(len(hold_ledger(KEY, 2, tuple(steps))), 6)
        steps.append(("pay", "a", "b", 1, random_secret(numbers, KEY, 2), 1))
        self.assertEqual(raised_by(hold_ledger, KEY, 2, tuple(steps)), NoWitness)


class Retelling(unittest.TestCase):
    def test_all_amounts_of_small_ledgers(self):
        numbers = random.Random(4)
        told = 0
        for key, top in HIDING:
            for _ in range(4):
                steps, _ = random_steps(numbers, key, top, 3, 3)
                ledger = hold_ledger(key, top, steps)
                issued = {step[1]: step[2] for step in steps if step[0] == "issue"}
                payments = [step[1:3] for step in steps if step[0] == "pay"]
                amounts = tuple(step[3] for step in steps if step[0] == "pay")
                self.assertEqual(retell_ledger(ledger, amounts), steps)
                for others in itertools.product(range(-1, top + 2), repeat=3):
                    if not allowed(issued, payments, others):
                        self.assertEqual(raised_by(retell_ledger, ledger, others), NoWitness)
                        continue
                    told += 1
                    found = retell_ledger(ledger, others)
                    self.assertEqual(tuple(hold_ledger(key, top, found)), tuple(ledger))
                    self.assertEqual(
                        [step[:4] if step[0] == "issue" else step[1:4] + step[5:] for step in found],
                        [step[:4] if step[0] == "issue" else (*step[1:3], amount, step[5])
                         for step, amount in zip(steps, (None,) * 3 + others, strict=True)],
                    )
        self.assertGreater(told, 60)

    def test_other_balances_change(self):
        # b can pay 2 only because the new first amount gives it 2.
        numbers = random.Random(5)
        steps = (
            ("issue", "a", 2, 4), ("issue", "b", 0, 1), ("issue", "c", 0, 0),
            ("pay", "a", "b", 0, random_secret(numbers, KEY, 2), 1),
            ("pay", "b", "c", 0, random_secret(numbers, KEY, 2), 2),
            ("pay", "c", "a", 0, random_secret(numbers, KEY, 2), 3),
        )
        ledger = hold_ledger(KEY, 2, steps)
        for others, right in (((2, 2, 2), True), ((2, 1, 1), True), ((1, 2, 0), False), ((0, 1, 0), False),
                              ((2, 1, 2), False), ((3, 0, 0), False)):
            if right:
                found = retell_ledger(ledger, others)
                self.assertEqual(tuple(hold_ledger(KEY, 2, found)), tuple(ledger))
            else:
                self.assertEqual(raised_by(retell_ledger, ledger, others), NoWitness)

    def test_errors_in_their_order(self):
        numbers = random.Random(6)
        ledger = random_ledger(numbers, KEY, 2, 3, 2)
        shut = random_ledger(numbers, OPEN, 2, 3, 2)
        for amounts in ((), (0,), (0, 0, 0), (-1, 0), (0, 3), (10 ** 59, 0)):
            self.assertEqual(raised_by(retell_ledger, ledger, amounts), NoWitness)
            self.assertEqual(raised_by(retell_ledger, shut, amounts), OpenKey)
        self.assertIsNone(raised_by(retell_ledger, ledger, (0, 0)))
        self.assertEqual(raised_by(retell_ledger, shut, (0, 0)), OpenKey)
        self.assertEqual(retell_ledger(Ledger(KEY, 1), ()), ())
        self.assertEqual(raised_by(retell_ledger, Ledger(KEY, 1), (0,)), NoWitness)
        self.assertEqual(raised_by(retell_ledger, Ledger(OPEN, 1), ()), OpenKey)


def claims_of(ledger):
    """Return the statement of each payment, with the sender's cover as it was then."""
    replay = Ledger(ledger.key, ledger.top)
    found = []
    for record in ledger:
        if record[0] == "issue":
            replay.issue(*record[1:])
        else:
            cover = replay.cover_of(record[1])
            found.append(payment_claim(ledger.key, ledger.top, cover, *record[3:6]))
            replay.post(record[1:], coin=record[6][1])
    return found


def plain_relation(ledger, witnesses):
    """Return whether the relation is revealed, and the values that are followed after each record."""
    q = ledger.key.group.order
    left = list(witnesses)
    openings, rows = {}, []
    for record in ledger:
        if record[0] == "issue":
            openings[record[1]] = record[2:]
        else:
            amount, rest = payment_openings(ledger.key, ledger.top, left.pop(0))
            for name, sign in ((record[1], -1), (record[2], 1)):
                openings[name] = tuple((a + sign * b) % q for a, b in zip(openings[name], amount, strict=True))
            if openings[record[1]][0] != rest[0]:
                return True, rows
        rows.append({name: opening[0] for name, opening in openings.items()})
    return False, rows


class Relations(unittest.TestCase):
    def test_any_witnesses(self):
        numbers = random.Random(7)
        revealed = silent = 0
        for key, top in ALL_KEYS:
            for _ in range(8):
                ledger = random_ledger(numbers, key, top, 3, numbers.choice((1, 1, 2, 3)))
                claims = claims_of(ledger)
                for _ in range(6):
                    witnesses = tuple(random_witness(numbers, key.group, claim) for claim in claims)
                    found = ledger_relation(ledger, witnesses)
                    expected, rows = plain_relation(ledger, witnesses)
                    if expected:
                        self.assertTrue(key.hiding)
                        self.assertEqual(found, key.relation)
                        revealed += 1
                    else:
                        self.assertIsNone(found)
                        silent += 1
                        issued = 0
                        for record, row in zip(ledger, rows, strict=True):
                            issued += record[2] if record[0] == "issue" else 0
                            self.assertEqual(sum(row.values()), issued)
                            self.assertTrue(all(0 <= value <= top for value in row.values()))
        self.assertGreater(revealed, 40)
        self.assertGreater(silent, 40)

    def test_honest_witnesses(self):
        numbers = random.Random(8)
        for key, top in HIDING:
            steps, _ = random_steps(numbers, key, top, 3, 5)
            ledger = hold_ledger(key, top, steps)
            openings, witnesses = {}, []
            q = key.group.order
            for step in steps:
                if step[0] == "issue":
                    openings[step[1]] = step[2:]
                    continue
                _, sender, receiver, amount, secret, _ = step
                moved = (amount, secret[0])
                openings[sender] = subtract_openings(q, openings[sender], moved)
                openings[receiver] = add_openings(q, openings[receiver], moved)
                witnesses.append((
                    range_witness(key, moved, top, secret[1]), range_witness(key, openings[sender], top, secret[2]),
                ))
            self.assertIsNone(ledger_relation(ledger, tuple(witnesses)))
        self.assertIsNone(ledger_relation(Ledger(KEY, 2), ()))

    def test_only_the_first_account(self):
        # The receiver's value is followed too: b spends what the witness gave it.
        numbers = random.Random(9)
        steps = (
            ("issue", "a", 1, 4), ("issue", "b", 0, 1),
            ("pay", "a", "b", 1, random_secret(numbers, KEY, 2), 1),
            ("pay", "b", "a", 1, random_secret(numbers, KEY, 2), 2),
        )
        ledger = hold_ledger(KEY, 2, steps)
        outcomes = []
        for amounts in ((1, 1), (1, 0), (0, 0)):
            told = retell_ledger(ledger, amounts)
            witnesses = []
            openings = {"a": (1, 4), "b": (0, 1)}
            for step in told[2:]:
                _, sender, receiver, amount, secret, _ = step
                moved = (amount, secret[0])
                openings[sender] = subtract_openings(5, openings[sender], moved)
                openings[receiver] = add_openings(5, openings[receiver], moved)
                witnesses.append((
                    range_witness(KEY, moved, 2, secret[1]), range_witness(KEY, openings[sender], 2, secret[2]),
                ))
            self.assertIsNone(ledger_relation(ledger, tuple(witnesses)))
            outcomes.append(witnesses)
        # With the first witness of one telling and the second of another, b spends what it has not.
        for (first, _), (_, second) in ((outcomes[2], outcomes[0]), (outcomes[0], outcomes[2])):
            self.assertEqual(ledger_relation(ledger, (first, second)), KEY.relation)

    def test_not_accepted_before_all(self):
        numbers = random.Random(10)
        for key, top in ((KEY, 2), (OPEN, 2)):
            ledger = random_ledger(numbers, key, top, 3, 2)
            claims = claims_of(ledger)
            good = tuple(random_witness(numbers, key.group, claim) for claim in claims)
            for witnesses in ((), good[:1], (*good, good[0])):
                self.assertEqual(raised_by(ledger_relation, ledger, witnesses), NotAccepted)
            for at in (0, 1):
                for wrong in (None, (), 3, (None, None), good[at][:1], with_part(good[at], (0, 2), (5,)),
                              with_part(good[at], (1, 0), (None, None)), with_part(good[at], (1, 2, 0), -1)):
                    changed = (*good[:at], wrong, *good[at + 1:])
                    self.assertEqual(raised_by(ledger_relation, ledger, changed), NotAccepted)
        # Unlike values in the first payment do not come before a wrong second witness.
        for _ in range(20):
            ledger = random_ledger(numbers, KEY, 2, 3, 2)
            claims = claims_of(ledger)
            good = tuple(random_witness(numbers, KEY.group, claim) for claim in claims)
            if ledger_relation(ledger, good) is not None:
                self.assertEqual(raised_by(ledger_relation, ledger, (good[0], None)), NotAccepted)
