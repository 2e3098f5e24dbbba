import itertools
import random
import unittest

from hushpapers.claims import (
    choice_claim, choice_openings, choice_witness, exclusion_claim, exclusion_openings,
    exclusion_relation, exclusion_witness, form_claim, form_openings, form_witness, known_claim,
    known_openings, known_witness, powers_claim, powers_openings, powers_witness, product_claim,
    product_openings, product_witness, same_claim, same_openings, same_witness, value_claim,
    value_openings, value_witness,
)
from hushpapers.covers import Key
from hushpapers.errors import BadStatement, NoWitness
from hushpapers.groups import PowerGroup
from hushpapers.runs import extract, run_of
from hushpapers.statements import fits, holds
from tests.key_samples import all_openings, any_number, some_keys
from tests.plain_statements import all_witnesses
from tests.samples import plain_power, raised_by, table_group

G5 = PowerGroup(11, 5)
G127 = PowerGroup(509, 127)
KEY = Key(G5, 3, 9)


def over(key, cover, value):
    """Return the cover divided by the power of the base, by multiplying."""
    return key.group.multiply(cover, plain_power(key.group, key.base, -value % key.group.order))


def random_opening(numbers, key, value=None):
    q = key.group.order
    return (numbers.randrange(q) if value is None else value % q, numbers.randrange(q))


def cover_of(key, opening):
    return key.cover(*opening)


class Tuples(unittest.TestCase):
    """The very tuples of the table in [33] and of [34] and [35]."""

    def test_examples(self):
        self.assertEqual(known_claim(KEY, 4), ("rows", 2, ((3, 9),), (4,)))
        self.assertEqual(value_claim(KEY, 4, 1), ("rows", 1, ((9,),), (5,)))
        self.assertEqual(same_claim(KEY, 4, 5), ("rows", 3, ((3, 9, 1), (3, 1, 9)), (4, 5)))
        self.assertEqual(product_claim(KEY, 4, 5, 3), (
            "rows", 5, ((3, 9, 1, 1, 1), (1, 1, 3, 9, 1), (1, 1, 4, 1, 9)), (4, 5, 3),
        ))
        self.assertEqual(form_claim(KEY, (4, 5), (2, -1), 8), (
            "rows", 4, ((3, 1, 9, 1), (1, 3, 1, 9), (9, 4, 1, 1)), (4, 5, 5),
        ))
        self.assertEqual(form_claim(KEY, (), (), 3), ("rows", 0, ((),), (5,)))
        self.assertEqual(powers_claim(KEY, (4,)), ("rows", 2, ((3, 9),), (4,)))
        self.assertEqual(powers_claim(KEY, (4, 5, 1)), (
            "rows", 4, ((3, 9, 1, 1), (4, 1, 9, 1), (5, 1, 1, 9)), (4, 5, 1),
        ))
        self.assertEqual(exclusion_claim(KEY, 4, ()), ("rows", 2, ((3, 9),), (4,)))
        self.assertEqual(exclusion_claim(KEY, 4, (0, 1)), (
            "rows", 6, ((3, 9, 1, 1, 1, 1), (1, 1, 4, 9, 1, 1), (1, 1, 1, 1, 5, 9)), (4, 3, 3),
        ))
        self.assertEqual(choice_claim(KEY, 9, (0, 1)), (
            "some", 1, (("rows", 1, ((9,),), (9,)), ("rows", 1, ((9,),), (3,))),
        ))

    def test_all_keys(self):
        numbers = random.Random(1)
        for key in some_keys():
            group, g, h, one = key.group, key.base, key.blind_base, key.group.unit
            for _ in range(6):
                c, d, e = [numbers.choice(group.members) for _ in range(3)]
                v, w = any_number(numbers), any_number(numbers)
                self.assertEqual(known_claim(key, c), ("rows", 2, ((g, h),), (c,)))
                self.assertEqual(value_claim(key, c, w), ("rows", 1, ((h,),), (over(key, c, w),)))
                self.assertEqual(same_claim(key, c, d), ("rows", 3, ((g, h, one), (g, one, h)), (c, d)))
                self.assertEqual(product_claim(key, c, d, e), (
                    "rows", 5, ((g, h, one, one, one), (one, one, g, h, one), (one, one, c, one, h)), (c, d, e),
                ))
                powers = [plain_power(group, g, x % group.order) for x in (v, w, v + w, 5)]
                self.assertEqual(form_claim(key, (c, d, e), (v, w, v + w), 5), (
                    "rows", 6,
                    (
                        (g, one, one, h, one, one), (one, g, one, one, h, one), (one, one, g, one, one, h),
                        (*powers[:3], one, one, one),
                    ),
                    (c, d, e, powers[3]),
                ))
                self.assertEqual(powers_claim(key, (c, d, e)), (
                    "rows", 4, ((g, h, one, one), (c, one, h, one), (d, one, one, h)), (c, d, e),
                ))
                self.assertEqual(exclusion_claim(key, c, (v, w)), (
                    "rows", 6,
                    (
                        (g, h, one, one, one, one), (one, one, over(key, c, v), h, one, one),
                        (one, one, one, one, over(key, c, w), h),
                    ),
                    (c, g, g),
                ))
                self.assertEqual(choice_claim(key, c, (v, v)), (
                    "some", 1, (("rows", 1, ((h,),), (over(key, c, v),)),) * 2,
                ))

    def test_widest(self):
        members = G127.members
        key = Key(G127, members[5], members[9])
        covers = members[:64]
        self.assertEqual(form_claim(key, covers[:32], tuple(range(32)), 0)[1], 64)
        self.assertEqual(powers_claim(key, covers[:63])[1], 64)
        self.assertEqual(exclusion_claim(key, covers[0], tuple(range(31)))[1], 64)
        self.assertEqual(len(choice_claim(key, covers[0], tuple(range(64)))[2]), 64)
        for call in (
            (form_claim, key, covers[:33], (1,) * 33, 0), (powers_claim, key, covers),
            (exclusion_claim, key, covers[0], tuple(range(32))), (choice_claim, key, covers[0], tuple(range(65))),
            (form_claim, key, (), (1,), 0), (form_claim, key, covers[:2], (1,), 0),
            (form_claim, key, covers[:1], (), 0), (form_claim, key, covers[:1], (1, 2), 0),
            (powers_claim, key, ()), (choice_claim, key, covers[0], ()),
        ):
            self.assertEqual(raised_by(*call), BadStatement)

    def test_choices_of_q_values(self):
        for key in some_keys():
            q = key.group.order
            self.assertEqual(len(choice_claim(key, key.base, (3,) * (q - 1))[2]), q - 1)
            for many in (0, q, q + 1, 65):
                self.assertEqual(raised_by(choice_claim, key, key.base, (3,) * many), BadStatement)


class Witnesses(unittest.TestCase):
    def check(self, key, claim, witness, openings, read):
        """Check a witness, and that the openings are read from it."""
        self.assertTrue(fits(key.group, claim, witness))
        self.assertEqual(read, openings)

    def test_fit_and_give_the_openings_back(self):
        numbers = random.Random(2)
        for key in some_keys() * 4:
            q = key.group.order
            one, two = random_opening(numbers, key), random_opening(numbers, key)
            c, d = cover_of(key, one), cover_of(key, two)
            witness = known_witness(key, one)
            self.assertEqual(witness, one)
            self.check(key, known_claim(key, c), witness, (one,), known_openings(key, witness))

            value = one[0] + q * numbers.choice((0, 1, -7, 10 ** 50))
            witness = value_witness(key, one, value)
            self.assertEqual(witness, (one[1],))
            self.check(key, value_claim(key, c, value), witness, (one,), value_openings(key, witness, value))

            other = (one[0], two[1])
            witness = same_witness(key, one, other)
            self.assertEqual(witness, (one[0], one[1], two[1]))
            claim = same_claim(key, c, cover_of(key, other))
            self.check(key, claim, witness, (one, other), same_openings(key, witness))

            third = random_opening(numbers, key, one[0] * two[0])
            witness = product_witness(key, one, two, third)
            self.assertEqual(witness, (*one, *two, (third[1] - one[1] * two[0]) % q))
            claim = product_claim(key, c, d, cover_of(key, third))
            self.check(key, claim, witness, (one, two, third), product_openings(key, witness))

    def test_forms(self):
        numbers = random.Random(3)
        for key in some_keys() * 4:
            q = key.group.order
            many = numbers.randrange(5)
            openings = tuple(random_opening(numbers, key) for _ in range(many))
            factors = tuple(any_number(numbers) for _ in range(many))
            total = sum(v * f for (v, _), f in zip(openings, factors)) + q * numbers.choice((0, 3, -10 ** 49))
            witness = form_witness(key, openings, factors, total)
            self.assertEqual(witness, tuple(v for v, _ in openings) + tuple(b for _, b in openings))
            covers = tuple(cover_of(key, one) for one in openings)
            claim = form_claim(key, covers, factors, total)
            self.check(key, claim, witness, openings, form_openings(key, witness))
            for wrong in (total + 1, total - 1, total + q * 10 ** 50 + 2):
                self.assertEqual(raised_by(form_witness, key, openings, factors, wrong), NoWitness)

    def test_powers(self):
        numbers = random.Random(4)
        for key in some_keys() * 4:
            q = key.group.order
            value, many = numbers.randrange(q), numbers.randrange(1, 6)
            openings = tuple(random_opening(numbers, key, value ** i) for i in range(1, many + 1))
            witness = powers_witness(key, openings)
            expected = openings[0] + tuple(
                (openings[i][1] - openings[i - 1][1] * value) % q for i in range(1, many)
            )
            self.assertEqual(witness, expected)
            claim = powers_claim(key, tuple(cover_of(key, one) for one in openings))
            self.check(key, claim, witness, openings, powers_openings(key, witness))
            for at in range(1, many):
                wrong = (*openings[:at], ((openings[at][0] + 1) % q, 0), *openings[at + 1:])
                self.assertEqual(raised_by(powers_witness, key, wrong), NoWitness)
            self.assertEqual(raised_by(powers_witness, key, ()), NoWitness)

    def test_exclusions(self):
        numbers = random.Random(5)
        for key in some_keys() * 4:
            q = key.group.order
            one = random_opening(numbers, key)
            values = tuple(v for v in (any_number(numbers) for _ in range(4)) if (v - one[0]) % q)
            witness = exclusion_witness(key, one, values)
            self.assertEqual(witness[:2], one)
            for at, value in enumerate(values):
                u, t = witness[2 + 2 * at:4 + 2 * at]
                self.assertEqual((u * (one[0] - value) % q, (t + one[1] * u) % q), (1, 0))
            claim = exclusion_claim(key, cover_of(key, one), values)
            self.check(key, claim, witness, (one,), exclusion_openings(key, witness))
            self.assertIsNone(exclusion_relation(key, values, witness))
            for wrong in ((one[0],), (*values, one[0] - 3 * q), (one[0] + q * 10 ** 49, *values)):
                self.assertEqual(raised_by(exclusion_witness, key, one, wrong), NoWitness)

    def test_choices(self):
        numbers = random.Random(6)
        for key in some_keys() * 4:
            q = key.group.order
            one = random_opening(numbers, key)
            values = [any_number(numbers) for _ in range(numbers.randrange(1, q))]
            equal = [at for at, value in enumerate(values) if value % q == one[0]]
            if not equal:
                self.assertEqual(raised_by(choice_witness, key, one, tuple(values)), NoWitness)
                equal = [numbers.randrange(len(values))]
                values[equal[0]] = one[0] + q * numbers.choice((0, -1, 10 ** 40))
            witness = choice_witness(key, one, tuple(values))
            expected = [None] * len(values)
            expected[equal[0]] = (one[1],)
            self.assertEqual(witness, tuple(expected))
            claim = choice_claim(key, cover_of(key, one), tuple(values))
            self.check(key, claim, witness, (one,), choice_openings(key, witness, tuple(values)))

    def test_choices_of_equal_values(self):
        witness = choice_witness(KEY, (2, 4), (1, 7, 2, -3))
        self.assertEqual(witness, (None, (4,), None, None))
        self.assertEqual(choice_openings(KEY, witness, (1, 7, 2, -3)), ((2, 4),))
        self.assertEqual(choice_openings(KEY, (None, None, (4,), (3,)), (1, 7, 2, -3)), ((2, 4),))
        self.assertEqual(choice_openings(KEY, (None, None, None, (3,)), (1, 7, 2, -3)), ((2, 3),))
        self.assertEqual(raised_by(choice_witness, KEY, (2, 4), ()), NoWitness)
        self.assertEqual(raised_by(choice_witness, KEY, (2, 4), (0, 1, 3, 4)), NoWitness)

    def test_no_witness(self):
        for key in some_keys():
            q = key.group.order
            for v in range(q):
                for w in range(q):
                    raised = None if v == w else NoWitness
                    self.assertEqual(raised_by(value_witness, key, (v, 1), w - 10 ** 30 * q), raised)
                    self.assertEqual(raised_by(same_witness, key, (v, 1), (w, 0)), raised)
                    for z in range(q):
                        raised = None if v * w % q == z else NoWitness
                        call = (product_witness, key, (v, 1), (w, 0), (z, 2))
                        self.assertEqual(raised_by(*call), raised)
        self.assertEqual(raised_by(form_witness, KEY, (), (), 5), None)
        self.assertEqual(form_witness(KEY, (), (), -10), ())
        for total in (1, -1, 4, 10 ** 50 + 1):
            self.assertEqual(raised_by(form_witness, KEY, (), (), total), NoWitness)


class Meaning(unittest.TestCase):
    """What is read from any witness, and what a claim says by holding."""

    def openings_of(self, key, claim, read, covers, is_true):
        for witness in all_witnesses(key.group, claim):
            openings = read(witness)
            self.assertIsInstance(openings, tuple)
            for cover, opening in zip(covers, openings, strict=True):
                self.assertIn(opening, all_openings(key, cover))
            self.assertTrue(is_true(openings))

    def test_any_witness_of_a_leaf(self):
        numbers = random.Random(7)
        for key in some_keys((3, 5)):
            q = key.group.order
            for _ in range(3):
                c, d, e = [numbers.choice(key.group.members) for _ in range(3)]
                w, f, total = [any_number(numbers) for _ in range(3)]
                self.openings_of(key, known_claim(key, c), lambda x: known_openings(key, x), (c,), bool)
                self.openings_of(
                    key, value_claim(key, c, w), lambda x: value_openings(key, x, w), (c,),
                    lambda found: found[0][0] == w % q,
                )
                self.openings_of(
                    key, same_claim(key, c, d), lambda x: same_openings(key, x), (c, d),
                    lambda found: found[0][0] == found[1][0],
                )
                self.openings_of(
                    key, form_claim(key, (c, d), (w, f), total), lambda x: form_openings(key, x), (c, d),
                    lambda found: (w * found[0][0] + f * found[1][0] - total) % q == 0,
                )
                self.openings_of(
                    key, powers_claim(key, (c, d, e)), lambda x: powers_openings(key, x), (c, d, e),
                    lambda found: [one[0] for one in found] == [found[0][0] ** i % q for i in (1, 2, 3)],
                )
                self.openings_of(
                    key, choice_claim(key, c, (w, f)), lambda x: choice_openings(key, x, (w, f)), (c,),
                    lambda found: found[0][0] in (w % q, f % q),
                )
            self.openings_of(
                key, product_claim(key, c, d, e), lambda x: product_openings(key, x), (c, d, e),
                lambda found: found[0][0] * found[1][0] % q == found[2][0],
            )

    def test_exclusion_or_relation(self):
        revealed = 0
        for key in some_keys((3, 5)):
            q = key.group.order
            for cover in key.group.members:
                for values in ((), (1,), (-2, 10 ** 40)) if q == 3 else ((4 - 10 * q,),):
                    claim = exclusion_claim(key, cover, values)
                    for witness in all_witnesses(key.group, claim):
                        (v, b), = exclusion_openings(key, witness)
                        self.assertIn((v, b), all_openings(key, cover))
                        wrong = [
                            at for at, w in enumerate(values) if (v - w) * witness[2 + 2 * at] % q != 1
                        ]
                        found = exclusion_relation(key, values, witness)
                        self.assertEqual(found, key.relation if wrong else None)
                        if found is None:
                            self.assertNotIn(v, [w % q for w in values])
                        else:
                            self.assertTrue(key.hiding)
                            revealed += 1
        self.assertGreater(revealed, 500)

    def test_hiding_keys_tell_nothing(self):
        numbers = random.Random(8)
        for key in some_keys():
            if not key.hiding:
                continue
            for _ in range(8):
                c, d, e = [numbers.choice(key.group.members) for _ in range(3)]
                w, f, total = [any_number(numbers) for _ in range(3)]
                for claim in (
                    known_claim(key, c), value_claim(key, c, w), same_claim(key, c, d),
                    product_claim(key, c, d, e), powers_claim(key, (c, d, e)),
                    exclusion_claim(key, c, (w, f)), choice_claim(key, c, (w, f)),
                ):
                    self.assertTrue(holds(key.group, claim))
                q = key.group.order
                expected = w % q != 0 or f % q != 0 or total % q == 0
                self.assertEqual(holds(key.group, form_claim(key, (c, d), (w, f), total)), expected)
                self.assertFalse(holds(key.group, form_claim(key, (c, d), (q, 0), 1)))
                self.assertTrue(holds(key.group, form_claim(key, (c, d), (-q, 0), 2 * q)))
                self.assertEqual(holds(key.group, form_claim(key, (), (), total)), total % q == 0)

    def test_open_keys_tell_whether_it_is_true(self):
        for key in some_keys((3, 5)):
            if key.hiding:
                continue
            group, q = key.group, key.group.order
            power = {cover: key.group.log(key.base, cover) for cover in group.members}
            for c, d in itertools.product(group.members, repeat=2):
                v, w = power[c], power[d]
                self.assertTrue(holds(group, known_claim(key, c)))
                self.assertEqual(holds(group, same_claim(key, c, d)), v == w)
                self.assertEqual(holds(group, powers_claim(key, (c, d))), v * v % q == w)
                for n in range(q):
                    e = plain_power(group, key.base, n)
                    self.assertEqual(holds(group, value_claim(key, c, n - q)), v == n)
                    self.assertEqual(holds(group, product_claim(key, c, d, e)), v * w % q == n)
                    self.assertEqual(holds(group, form_claim(key, (c, d), (2, -1), n)), (2 * v - w - n) % q == 0)
                    self.assertEqual(holds(group, exclusion_claim(key, c, (n, w))), v not in (n, w))
                    self.assertEqual(holds(group, choice_claim(key, c, (n, w))), v in (n, w))

    def test_two_runs_give_openings(self):
        opening = (2, 4)
        claim = choice_claim(KEY, KEY.cover(2, 4), (1, 2, 3))
        witness = choice_witness(KEY, opening, (1, 2, 3))
        runs = [run_of(G5, claim, witness, (1, 2, 3, 4, 0), c) for c in (1, 4)]
        self.assertEqual(choice_openings(KEY, extract(G5, claim, *runs), (1, 2, 3)), (opening,))

    def test_translated_to_another_group(self):
        other = Key(table_group((3, 1, 4, 0, 2)), 4, 0)
        relation = other.relation
        here = Key(G5, 3, G5.power(3, relation))

        def carried(value):
            if isinstance(value, tuple):
                return tuple(carried(item) for item in value)
            return G5.carried(value, 3, other.group, 4)

        for claim, args in (
            (known_claim, (9,)), (value_claim, (9,)), (same_claim, (9, 5)), (product_claim, (9, 5, 4)),
            (powers_claim, ((9, 5, 4),)), (exclusion_claim, (9,)), (choice_claim, (9,)), (form_claim, ((9, 5),)),
        ):
            rest = {
                value_claim: (7,), exclusion_claim: ((7, -1),), choice_claim: ((7, -1),), form_claim: ((3, 4), 6),
            }.get(claim, ())
            made = claim(here, *args, *rest)
            there = claim(other, *carried(args), *rest)
            for one, two in zip([made] if made[0] == "rows" else made[2], [there] if there[0] == "rows" else there[2]):
                self.assertEqual((one[0], one[1], carried(one[2]), carried(one[3])), two)
