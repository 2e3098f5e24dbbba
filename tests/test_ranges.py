import itertools
import random
import unittest

from hushpapers.claims import choice_claim
from hushpapers.covers import Key, add_openings, divide, subtract_openings
from hushpapers.errors import (
    BadChallenge, BadStatement, BadTape, NotAccepted, NoWitness, OpenKey,
)
from hushpapers.groups import PowerGroup
from hushpapers.ranges import (
    offer_range, order_claim, order_openings, order_witness, range_claim, range_digits,
    range_openings, range_weights, range_witness, retell_range,
)
from hushpapers.runs import accepts, mimic
from hushpapers.statements import every, fits, holds, leaf, tape_length
from tests.key_samples import some_keys
from tests.plain_runs import random_witness, with_part
from tests.plain_statements import all_witnesses
from tests.samples import plain_combine, plain_power, raised_by, rows_of, table_group

G3 = PowerGroup(7, 3)
G5 = PowerGroup(11, 5)
G7 = PowerGroup(29, 7)
G127 = PowerGroup(509, 127)
KEY = Key(G5, 3, 9)
OPEN = Key(G5, 3, 1)
BIG = Key(G127, G127.members[3], G127.members[40])
OPEN_BIG = Key(G127, G127.members[3], 1)
KEYS_3 = (Key(G3, 2, 4), Key(G3, 4, 4), Key(table_group((2, 0, 1)), 0, 1))


def plain_weights(top):
    """Return the weights by the words of [36]."""
    j = max(j for j in range(12) if 2 ** j - 1 <= top)
    extra = top - (2 ** j - 1)
    return tuple(2 ** i for i in range(j)) + ((extra,) if extra else ())


def some_blinds(numbers, key, top):
    return tuple(numbers.randrange(key.group.order) for _ in range_weights(top))


class Digits(unittest.TestCase):
    def test_examples(self):
        self.assertEqual(range_weights(5), (1, 2, 2))
        self.assertEqual(range_digits(5, 4), (0, 1, 1))
        self.assertEqual(range_weights(0), ())
        self.assertEqual(range_digits(0, 0), ())
        self.assertEqual(range_weights(1), (1,))
        self.assertEqual(range_weights(2), (1, 1))
        self.assertEqual(range_weights(7), (1, 2, 4))
        self.assertEqual(range_digits(5, 3), (1, 1, 0))

    def test_weights(self):
        for top in range(1001):
            self.assertEqual(range_weights(top), plain_weights(top))
            self.assertEqual(sum(range_weights(top)), top)

    def test_digits(self):
        for top in range(1001):
            weights = plain_weights(top)
            j = max(j for j in range(12) if 2 ** j - 1 <= top)
            extra = top - (2 ** j - 1)
            for value in range(top + 1):
                high = 1 if value > 2 ** j - 1 else 0
                rest = value - high * extra
                digits = tuple(rest // 2 ** i % 2 for i in range(j)) + ((high,) if extra else ())
                self.assertEqual(range_digits(top, value), digits)
                self.assertEqual(sum(map(int.__mul__, weights, digits)), value)

    def test_no_witness(self):
        for top in (0, 1, 2, 5, 6, 7, 8, 1000):
            for value in (-1, -2, top + 1, top + 2, 2 * top + 2, 10 ** 59, -10 ** 59):
                self.assertEqual(raised_by(range_digits, top, value), NoWitness)


class Claims(unittest.TestCase):
    def test_tuples(self):
        numbers = random.Random(1)
        for key in some_keys():
            group, q = key.group, key.group.order
            for top in range(q):
                weights = range_weights(top)
                cover = numbers.choice(group.members)
                digits = tuple(numbers.choice(group.members) for _ in weights)
                product = plain_combine(group, digits, weights)
                sum_leaf = leaf(group, 1, ((key.blind_base,),), (divide(group, cover, product),))
                kids = tuple(choice_claim(key, one, (0, 1)) for one in digits)
                self.assertEqual(range_claim(key, cover, top, digits), every(group, (*kids, sum_leaf)))

    def test_example(self):
        self.assertEqual(range_claim(KEY, 4, 2, (5, 9)), ("some", 3, (
            ("some", 1, (("rows", 1, ((9,),), (5,)), ("rows", 1, ((9,),), (9,)))),
            ("some", 1, (("rows", 1, ((9,),), (9,)), ("rows", 1, ((9,),), (3,)))),
            ("rows", 1, ((9,),), (divide(G5, 4, 1),)),
        )))
        self.assertEqual(range_claim(KEY, 4, 0, ()), ("some", 1, (("rows", 1, ((9,),), (4,)),)))

    def test_bad_statement(self):
        for key in (KEY, OPEN, *KEYS_3):
            q = key.group.order
            for top in (-1, q, q + 1, 10 ** 59, -10 ** 59):
                for many in range(5):
                    self.assertEqual(raised_by(range_claim, key, key.base, top, (key.base,) * many), BadStatement)
            for top in range(q):
                right = len(range_weights(top))
                for many in range(right + 3):
                    raised = None if many == right else BadStatement
                    self.assertEqual(raised_by(range_claim, key, key.base, top, (key.base,) * many), raised)
        self.assertEqual(raised_by(range_claim, BIG, 1, 126, (1,) * 7), None)
        for many in (6, 8):
            self.assertEqual(raised_by(range_claim, BIG, 1, 126, (1,) * many), BadStatement)

    def test_what_an_open_key_says(self):
        for key in (OPEN, Key(table_group((3, 1, 4, 0, 2)), 4, 3)):
            group = key.group
            for top in range(5):
                weights = range_weights(top)
                for values in itertools.product(range(5), repeat=len(weights) + 1):
                    cover, *digits = [plain_power(group, key.base, value) for value in values]
                    good = all(digit in (0, 1) for digit in values[1:])
                    total = sum(w * digit for w, digit in zip(weights, values[1:], strict=True))
                    expected = good and total % 5 == values[0]
                    self.assertEqual(holds(group, range_claim(key, cover, top, tuple(digits))), expected)

    def test_a_hiding_key_tells_nothing(self):
        for key in KEYS_3:
            for top in range(3):
                for covers in itertools.product(key.group.members, repeat=1 + len(range_weights(top))):
                    self.assertTrue(holds(key.group, range_claim(key, covers[0], top, covers[1:])))


class Witnesses(unittest.TestCase):
    def test_fits_and_gives_the_opening_back(self):
        numbers = random.Random(2)
        for key in (*some_keys(), BIG, OPEN_BIG):
            group, q = key.group, key.group.order
            tops = range(q) if q < 10 else (0, 1, 2, 62, 63, 64, 100, 125, 126)
            for top in tops:
                for value in (range(top + 1) if q < 10 else (0, top // 2, top)):
                    blind = numbers.randrange(q)
                    blinds = some_blinds(numbers, key, top)
                    witness = range_witness(key, (value, blind), top, blinds)
                    digits = range_digits(top, value)
                    kids = tuple(((b,), None) if d == 0 else (None, (b,)) for d, b in zip(digits, blinds, strict=True))
                    rest = blind - sum(w * b for w, b in zip(range_weights(top), blinds, strict=True))
                    self.assertEqual(witness, (*kids, (rest % q,)))
                    covers = tuple(key.cover(d, b) for d, b in zip(digits, blinds, strict=True))
                    claim = range_claim(key, key.cover(value, blind), top, covers)
                    self.assertTrue(fits(group, claim, witness))
                    self.assertEqual(range_openings(key, witness, top), ((value, blind),))

    def test_every_witness_opens_the_cover(self):
        numbers = random.Random(3)
        for key in (*KEYS_3, Key(G3, 2, 1), KEY, OPEN):
            group, q = key.group, key.group.order
            for top in range(min(q, 4)):
                for _ in range(6):
                    covers = tuple(numbers.choice(group.members) for _ in range(1 + len(range_weights(top))))
                    claim = range_claim(key, covers[0], top, covers[1:])
                    for witness in all_witnesses(group, claim)[:400]:
                        (value, blind), = range_openings(key, witness, top)
                        self.assertTrue(0 <= value <= top and 0 <= blind < q)
                        self.assertTrue(key.opens(covers[0], value, blind))

    def test_both_digits_given(self):
        # The first item that is not None is read, whatever stands behind it.
        covers = (KEY.cover(0, 2), KEY.cover(1, 3))
        claim = range_claim(KEY, KEY.cover(1, 4), 2, covers)
        both = ((2,), (KEY.blind_for(covers[0], 1),))
        witness = (both, (None, (3,)), ((4 - 5) % 5,))
        self.assertTrue(fits(G5, claim, witness))
        self.assertEqual(range_openings(KEY, witness, 2), ((1, 4),))
        # With the digit 1 for the first cover, the value and the blind are others.
        witness = ((None, both[1]), (None, (3,)), ((4 - 5) % 5,))
        self.assertTrue(fits(G5, claim, witness))
        (value, blind), = range_openings(KEY, witness, 2)
        self.assertEqual(value, 2)
        self.assertTrue(KEY.opens(KEY.cover(1, 4), value, blind))

    def test_errors(self):
        for value in (3, 4):
            for blinds in ((0, 0), (), (0,), (0, 0, 0), (0, 5), (-1, 0)):
                self.assertEqual(raised_by(range_witness, KEY, (value, 1), 2, blinds), NoWitness)
        for blinds in ((), (0,), (0, 0, 0), (0, 5), (-1, 0), (10 ** 59, 0)):
            self.assertEqual(raised_by(range_witness, KEY, (2, 1), 2, blinds), BadTape)
        self.assertEqual(raised_by(range_witness, KEY, (0, 1), 0, (1,)), BadTape)
        self.assertEqual(range_witness(KEY, (0, 1), 0, ()), ((1,),))
        self.assertEqual(raised_by(range_witness, KEY, (1, 1), 0, ()), NoWitness)


class Offers(unittest.TestCase):
    def test_undo_each_other(self):
        numbers = random.Random(4)
        for key in (*some_keys(), BIG):
            if not key.hiding:
                continue
            group, q = key.group, key.group.order
            for top in (range(q) if q < 10 else (0, 1, 63, 64, 100, 126)):
                opening = (numbers.randrange(top + 1), numbers.randrange(q))
                cover = key.cover(*opening)
                blinds = some_blinds(numbers, key, top)
                length = tape_length(range_claim(key, cover, top, (key.base,) * len(blinds)))
                tape = tuple(numbers.randrange(q) for _ in range(length))
                challenge = numbers.randrange(q)
                covers, run = offer_range(key, opening, top, blinds, tape, challenge)
                self.assertEqual(covers, tuple(
                    key.cover(d, b) for d, b in zip(range_digits(top, opening[0]), blinds, strict=True)
                ))
                self.assertEqual(run[1], challenge)
                self.assertTrue(accepts(group, range_claim(key, cover, top, covers), run))
                self.assertEqual(
                    retell_range(key, cover, top, covers, run, opening[0]), (opening[1], blinds, tape)
                )
                for value in (range(top + 1) if q < 10 else (0, top // 2, top)):
                    found = retell_range(key, cover, top, covers, run, value)
                    self.assertEqual(key.cover(value, found[0]), cover)
                    again = offer_range(key, (value, found[0]), top, found[1], found[2], challenge)
                    self.assertEqual(again, (covers, run))

    def test_retelling_mimicked_runs(self):
        numbers = random.Random(5)
        for key in (KEY, *KEYS_3):
            group = key.group
            for top in range(3):
                covers = tuple(numbers.choice(group.members) for _ in range(1 + len(range_weights(top))))
                claim = range_claim(key, covers[0], top, covers[1:])
                tape = tuple(numbers.randrange(group.order) for _ in range(tape_length(claim)))
                run = mimic(group, claim, 1, tape)
                for value in range(top + 1):
                    blind, blinds, tape = retell_range(key, covers[0], top, covers[1:], run, value)
                    again = offer_range(key, (value, blind), top, blinds, tape, 1)
                    self.assertEqual(again, (covers[1:], run))

    def test_offer_errors(self):
        tape = (0,) * 7
        good = ((2, 1), 2, (0, 3), tape, 4)
        self.assertIsNone(raised_by(offer_range, KEY, *good))
        for wrong in ((), tape[1:], (*tape, 0), (*tape[1:], 5), (-1, *tape[1:])):
            for challenge in (4, 5, -1):
                call = (offer_range, KEY, (2, 1), 2, (0, 3), wrong, challenge)
                self.assertEqual(raised_by(*call), BadTape)
        for challenge in (5, -1, 10 ** 59):
            self.assertEqual(raised_by(offer_range, KEY, *good[:4], challenge), BadChallenge)
        for blinds in ((), (0,), (0, 3, 1), (0, 5), (-1, 3)):
            self.assertEqual(raised_by(offer_range, KEY, (2, 1), 2, blinds, tape, 5), BadTape)
            self.assertEqual(raised_by(offer_range, KEY, (3, 1), 2, blinds, (), 5), NoWitness)

    def test_retell_errors(self):
        cover = KEY.cover(1, 4)
        covers, run = offer_range(KEY, (1, 4), 2, (0, 3), (1, 2, 3, 4, 0, 1, 2), 4)
        self.assertIsNone(raised_by(retell_range, KEY, cover, 2, covers, run, 0))
        bad = (with_part(run, (1,), 3), with_part(run, (1,), 5), with_part(run, (2, 1, 2, 0), 9), ((), 4, ()))
        for one in bad:
            for value in (0, 1, 2):
                self.assertEqual(raised_by(retell_range, KEY, cover, 2, covers, one, value), NotAccepted)
        for value in (-1, 3, 5, 10 ** 59, -10 ** 59):
            for one in (run, *bad):
                self.assertEqual(raised_by(retell_range, KEY, cover, 2, covers, one, value), NoWitness)
                self.assertEqual(raised_by(retell_range, OPEN, cover, 2, covers, one, value), OpenKey)
        for value in (0, 1):
            self.assertEqual(raised_by(retell_range, OPEN, cover, 2, covers, run, value), OpenKey)

    def test_every_value_gives_every_offer_equally_often(self):
        for key in KEYS_3:
            for top in (0, 1):
                found = []
                for value in range(top + 1):
                    offers = {}
                    many = len(range_weights(top))
                    for blind, *blinds in rows_of(3, 1 + many):
                        for tape in rows_of(3, 1 + 3 * many):
                            offer = offer_range(key, (value, blind), top, tuple(blinds), tape, 2)
                            told = (key.cover(value, blind), offer)
                            offers[told] = offers.get(told, 0) + 1
                    found.append(offers)
                self.assertEqual(found[0], found[-1])
                self.assertEqual(set(found[0].values()), {1})


class Orders(unittest.TestCase):
    def test_tuples(self):
        numbers = random.Random(6)
        for key in (*some_keys(), BIG):
            group, q = key.group, key.group.order
            for top in (range((q + 1) // 2) if q < 10 else (0, 5, 63)):
                first, second = [numbers.choice(group.members) for _ in range(2)]
                rows = [tuple(numbers.choice(group.members) for _ in range_weights(top)) for _ in range(3)]
                gap = group.multiply(second, plain_power(group, first, q - 1))
                expected = every(group, tuple(
                    range_claim(key, cover, top, row) for cover, row in zip((first, second, gap), rows, strict=True)
                ))
                self.assertEqual(order_claim(key, first, second, top, *rows), expected)

    def test_bad_statement(self):
        for key in (KEY, OPEN, *KEYS_3, Key(G7, 7, 16), BIG):
            q = key.group.order
            for top in (-1, (q - 1) // 2, (q + 1) // 2, q, 10 ** 59, -10 ** 59):
                rows = ((key.base,) * len(range_weights(min(max(top, 0), q))),) * 3
                raised = None if top == (q - 1) // 2 else BadStatement
                self.assertEqual(raised_by(order_claim, key, key.base, key.base, top, *rows), raised)
        for at in range(3):
            for many in (0, 1, 3):
                rows = [(3, 3)] * 3
                rows[at] = (3,) * many
                self.assertEqual(raised_by(order_claim, KEY, 3, 3, 2, *rows), BadStatement)

    def test_witnesses(self):
        numbers = random.Random(7)
        for key in (*some_keys((5, 7)), BIG, OPEN_BIG):
            group, q = key.group, key.group.order
            for top in (range((q + 1) // 2) if q < 10 else (0, 5, 63)):
                for v, w in itertools.product((0, 1, top // 2, top, q - 1), repeat=2):
                    first, second = (v, numbers.randrange(q)), (w, numbers.randrange(q))
                    gap = subtract_openings(q, second, first)
                    rows = [some_blinds(numbers, key, top) for _ in range(3)]
                    call = (order_witness, key, first, second, top, *rows)
                    if not v <= w <= top:
                        self.assertEqual(raised_by(*call), NoWitness)
                        continue
                    witness = order_witness(*call[1:])
                    covers = [
                        tuple(key.cover(d, b) for d, b in zip(range_digits(top, value), row, strict=True))
                        for value, row in zip((v, w, gap[0]), rows, strict=True)
                    ]
                    claim = order_claim(key, key.cover(*first), key.cover(*second), top, *covers)
                    self.assertTrue(fits(group, claim, witness))
                    self.assertEqual(order_openings(key, witness, top), (first, second, gap))

    def test_no_witness_comes_before_bad_tape(self):
        good = ((0, 0), (0, 0), (0, 0))
        bad = [((0, 0), (0, 0), (0, 0))[:at] + ((0,),) + good[at + 1:] for at in range(3)]
        bad += [((0, 0), (0, 0), (0, 0))[:at] + ((0, 5),) + good[at + 1:] for at in range(3)]
        for rows in (good, *bad):
            for v, w in ((3, 3), (0, 3), (3, 0), (2, 1), (1, 0), (4, 0), (0, 4)):
                self.assertEqual(raised_by(order_witness, KEY, (v, 0), (w, 0), 2, *rows), NoWitness)
        for rows in bad:
            for v, w in ((0, 0), (0, 2), (1, 2), (2, 2)):
                self.assertEqual(raised_by(order_witness, KEY, (v, 0), (w, 0), 2, *rows), BadTape)

    def test_what_an_open_key_says(self):
        key = Key(G7, G7.members[2], 1)
        for top in (1, 3):
            for v, w in itertools.product(range(7), repeat=2):
                first, second = key.cover(v, 0), key.cover(w, 3)
                any_holds = False
                for sums in itertools.product(range(top + 1), repeat=3):
                    rows = [tuple(key.cover(d, 0) for d in range_digits(top, value)) for value in sums]
                    any_holds = any_holds or holds(G7, order_claim(key, first, second, top, *rows))
                self.assertEqual(any_holds, v <= w <= top)

    def test_openings_of_any_witness(self):
        # For a hiding key every covers hold: an order that is wrong reveals the relation.
        numbers = random.Random(8)
        revealed = 0
        for key in (KEY, Key(G7, G7.members[2], G7.members[3]), Key(table_group((3, 1, 4, 0, 2)), 4, 4)):
            group, q = key.group, key.group.order
            for _ in range(60):
                top = numbers.randrange((q + 1) // 2)
                first, second = [numbers.choice(group.members) for _ in range(2)]
                rows = [tuple(numbers.choice(group.members) for _ in range_weights(top)) for _ in range(3)]
                claim = order_claim(key, first, second, top, *rows)
                witness = random_witness(numbers, group, claim)
                found = order_openings(key, witness, top)
                for cover, opening in zip((first, second, divide(group, second, first)), found, strict=True):
                    self.assertTrue(key.opens(cover, *opening))
                    self.assertLessEqual(opening[0], top)
                gap = subtract_openings(q, found[1], found[0])
                if gap[0] == found[2][0]:
                    self.assertLessEqual(found[0][0], found[1][0])
                    self.assertEqual(add_openings(q, found[0], found[2]), found[1])
                else:
                    self.assertEqual(key.relation_from(gap, found[2]), key.relation)
                    revealed += 1
        self.assertGreater(revealed, 20)
