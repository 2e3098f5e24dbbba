import random
import unittest
from fractions import Fraction

from hushpapers.batches import batch, batch_share, holding_weights, split_batch, worst_leaves
from hushpapers.errors import BadBatch, BadWitness
from hushpapers.groups import PowerGroup
from hushpapers.runs import answerable
from hushpapers.statements import find_witness, fits, holds, leaf
from hushpapers.strategies import best_share
from tests.plain_runs import accepted_answers, all_starts
from tests.plain_statements import is_solution
from tests.samples import (
    plain_combine, plain_power, raised_by, rows_of, small_groups, table_group,
)

G5 = PowerGroup(11, 5)
G7 = PowerGroup(29, 7)
G127 = PowerGroup(509, 127)


def random_leaves(numbers, group, many):
    """Return leaves of one matrix; in about half of the cases they are all made to hold."""
    width, rows = numbers.randrange(3), numbers.randrange(3)
    entries = (group.unit, group.unit, *group.members)
    matrix = tuple(tuple(numbers.choice(entries) for _ in range(width)) for _ in range(rows))
    made_to_hold = numbers.randrange(2)
    leaves = []
    for _ in range(many):
        if made_to_hold or numbers.randrange(2):
            x = [numbers.randrange(group.order) for _ in range(width)]
            targets = tuple(plain_combine(group, row, x) for row in matrix)
        else:
            targets = tuple(numbers.choice(group.members) for _ in range(rows))
        leaves.append(leaf(group, width, matrix, targets))
    return tuple(leaves)


def plain_batch(group, leaves, weight):
    """Return the batch by multiplying again and again."""
    _, width, matrix, _ = leaves[0]
    targets = []
    for row in range(len(matrix)):
        product = group.unit
        for j, one in enumerate(leaves):
            product = group.multiply(product, plain_power(group, one[3][row], weight ** j))
        targets.append(product)
    return ("rows", width, matrix, tuple(targets))


def some_batches(seed, many, most=5):
    numbers = random.Random(seed)
    for _ in range(many):
        group = numbers.choice(small_groups())
        yield numbers, group, random_leaves(numbers, group, numbers.randrange(1, most + 1))


class Batches(unittest.TestCase):
    def test_every_weight(self):
        for _, group, leaves in some_batches(1, 80):
            for weight in range(group.order):
                found = batch(group, leaves, weight)
                self.assertEqual(found, plain_batch(group, leaves, weight))
                self.assertEqual(found, leaf(group, *found[1:]))

    def test_weight_0_takes_the_first_leaf(self):
        for _, group, leaves in some_batches(2, 40):
            self.assertEqual(batch(group, leaves, 0), leaves[0])
            self.assertEqual(batch(group, leaves[:1], 1), leaves[0])

    def test_large(self):
        b = G127.generator
        leaves = tuple(leaf(G127, 1, ((b,),), (G127.power(b, j * j),)) for j in range(400))
        exponent = sum(j * j * 126 ** j for j in range(400))
        self.assertEqual(batch(G127, leaves, 126)[3], (G127.power(b, exponent),))
        self.assertEqual(holding_weights(G127, leaves), tuple(range(127)))

    def test_holding_weights(self):
        for _, group, leaves in some_batches(3, 150):
            expected = tuple(
                weight for weight in range(group.order)
                if any(
                    is_solution(group, plain_batch(group, leaves, weight), x)
                    for x in rows_of(group.order, leaves[0][1])
                )
            )
            self.assertEqual(holding_weights(group, leaves), expected)
            if all(holds(group, one) for one in leaves):
                self.assertEqual(expected, tuple(range(group.order)))
            else:
                self.assertLessEqual(len(expected), len(leaves) - 1)

    def test_large_matrices(self):
        b = G127.generator
        matrix = tuple(tuple(G127.power(b, i ** j) for j in range(16)) for i in range(1, 17))
        leaves = tuple(
            leaf(G127, 16, matrix[:15] + matrix[:1], (b,) * 15 + (G127.power(b, 1 + e),)) for e in (2, 126)
        )
        # The last row equals the first, so 2 - weight must be 0.
        self.assertEqual(holding_weights(G127, leaves), (2,))
        self.assertEqual(batch_share(G127, leaves), (127 + 127 - 1, 127 * 127))


class Worst(unittest.TestCase):
    def test_reach_the_bound(self):
        for group in (*small_groups(), PowerGroup(23, 11), table_group((1, 0, *range(2, 11)))):
            q = group.order
            for many in range(1, q + 2):
                leaves = worst_leaves(group, many)
                self.assertEqual(len(leaves), many)
                self.assertEqual(leaves, tuple(leaf(group, *one[1:]) for one in leaves))
                self.assertEqual({one[1:3] for one in leaves}, {(0, ((),))})
                self.assertFalse(all(holds(group, one) for one in leaves))
                self.assertEqual(holding_weights(group, leaves), tuple(range(many - 1)))

    def test_targets(self):
        for group in small_groups():
            base = min(member for member in group.members if member != group.unit)
            for many in (1, 2, 3, group.order + 1):
                polynomial = [1]
                for root in range(many - 1):
                    polynomial = [
                        (polynomial[i - 1] if i else 0) - root * (polynomial[i] if i < len(polynomial) else 0)
                        for i in range(len(polynomial) + 1)
                    ]
                expected = tuple(
                    ("rows", 0, ((),), (plain_power(group, base, a % group.order),)) for a in polynomial
                )
                self.assertEqual(worst_leaves(group, many), expected)

    def test_examples(self):
        self.assertEqual(worst_leaves(G5, 1), (("rows", 0, ((),), (3,)),))
        self.assertEqual(worst_leaves(G5, 2), (("rows", 0, ((),), (1,)), ("rows", 0, ((),), (3,))))
        # (x - 0) * (x - 1) has the coefficients 0, -1, 1.
        self.assertEqual([one[3] for one in worst_leaves(G5, 3)], [(1,), (4,), (3,)])
        # The least member that is not the unit is 0, and the unit is 2.
        group = table_group((2, 0, 1))
        self.assertEqual([one[3] for one in worst_leaves(group, 2)], [(2,), (0,)])

    def test_largest_order(self):
        leaves = worst_leaves(G127, 128)
        self.assertEqual(holding_weights(G127, leaves), tuple(range(127)))
        self.assertEqual(batch_share(G127, leaves), (1, 1))
        self.assertEqual(batch_share(G127, worst_leaves(G127, 127)), (126 * 127 + 1, 127 * 127))

    def test_errors(self):
        for group in small_groups():
            for many in (0, -1, -10 ** 59, group.order + 2, 10 ** 59):
                self.assertEqual(raised_by(worst_leaves, group, many), BadBatch)


class Share(unittest.TestCase):
    def test_by_trying(self):
        for _, group, leaves in some_batches(4, 60, 4):
            total = Fraction(0)
            for weight in range(group.order):
                one = batch(group, leaves, weight)
                best = max(
                    sum(1 for c in range(group.order) if accepted_answers(group, one, start, c))
                    for start in all_starts(group, one)
                )
                self.assertEqual(best_share(group, one), (Fraction(best, group.order).as_integer_ratio()))
                total += Fraction(best, group.order)
            expected = (total / group.order).as_integer_ratio()
            self.assertEqual(batch_share(group, leaves), expected)

    def test_worst(self):
        for many in range(1, 9):
            h, q = many - 1, 7
            expected = Fraction(h * q + q - h, q * q).as_integer_ratio()
            self.assertEqual(batch_share(G7, worst_leaves(G7, many)), expected)
        self.assertEqual(batch_share(G7, worst_leaves(G7, 8)), (1, 1))
        self.assertEqual(batch_share(G7, (leaf(G7, 0, ((),), (1,)),)), (1, 1))
        self.assertEqual(answerable(G7, worst_leaves(G7, 1)[0], (1,)), (0,))


class Split(unittest.TestCase):
    def test_witnesses_fit_each_leaf(self):
        checked = 0
        for numbers, group, leaves in some_batches(5, 150):
            if len(leaves) > group.order or not all(holds(group, one) for one in leaves):
                continue
            weights = numbers.sample(range(group.order), len(leaves))
            pairs = tuple((w, find_witness(group, batch(group, leaves, w))) for w in weights)
            found = split_batch(group, leaves, pairs)
            self.assertEqual(len(found), len(leaves))
            for one, witness in zip(leaves, found, strict=True):
                self.assertTrue(fits(group, one, witness))
            for weight, witness in pairs:
                joined = tuple(
                    sum(x[item] * weight ** j for j, x in enumerate(found)) % group.order
                    for item in range(leaves[0][1])
                )
                self.assertEqual(joined, witness)
            checked += 1
        self.assertGreater(checked, 50)

    def test_any_witnesses(self):
        leaves = (leaf(G5, 2, (), ()),) * 2
        self.assertEqual(split_batch(G5, leaves, ((1, (3, 1)), (2, (0, 1)))), ((1, 1), (2, 0)))
        self.assertEqual(split_batch(G5, leaves, ((4, (3, 1)), (0, (0, 1)))), ((0, 1), (2, 0)))
        self.assertEqual(split_batch(G5, (leaf(G5, 0, (), ()),), ((2, ()),)), ((),))

    def test_largest_order(self):
        b = G127.generator
        leaves = tuple(leaf(G127, 1, ((b,),), (G127.power(b, j * j),)) for j in range(127))
        pairs = tuple((w, find_witness(G127, batch(G127, leaves, w))) for w in range(126, -1, -1))
        self.assertEqual(split_batch(G127, leaves, pairs), tuple((j * j % 127,) for j in range(127)))

    def test_wrong_pairs(self):
        b = G5.generator
        leaves = tuple(leaf(G5, 1, ((b,),), (G5.power(b, e),)) for e in (2, 4, 1))
        pairs = tuple((w, find_witness(G5, batch(G5, leaves, w))) for w in range(5))
        self.assertEqual(split_batch(G5, leaves, pairs[:3]), ((2,), (4,), (1,)))
        for wrong in ((), pairs[:1], pairs[:2], pairs[:4], pairs, (pairs[0], pairs[1], pairs[0])):
            self.assertEqual(raised_by(split_batch, G5, leaves, wrong), BadBatch)
        for witness in ((pairs[1][1][0] + 1,), (), (0, 0), None, 3, (-1,), (5,), (pairs[1][1][0] + 5,)):
            wrong = (pairs[0], (1, witness), pairs[3])
            if witness != pairs[1][1]:
                self.assertEqual(raised_by(split_batch, G5, leaves, wrong), BadWitness)
            # A wrong number and equal weights come before a witness that does not fit.
            self.assertEqual(raised_by(split_batch, G5, leaves, wrong[:2]), BadBatch)
            self.assertEqual(raised_by(split_batch, G5, leaves, (*wrong[:2], pairs[0])), BadBatch)

    def test_more_leaves_than_weights(self):
        leaves = (leaf(G5, 1, (), ()),) * 6
        pairs = tuple((w % 5, (1,)) for w in range(6))
        self.assertEqual(raised_by(split_batch, G5, leaves, pairs), BadBatch)
        self.assertEqual(raised_by(split_batch, G5, leaves, pairs[:5]), BadBatch)


class Errors(unittest.TestCase):
    def test_no_batch(self):
        one = leaf(G5, 1, ((3,),), (9,))
        wrong = (
            (), (one, leaf(G5, 2, ((3, 1),), (9,))), (one, leaf(G5, 1, ((4,),), (9,))),
            (one, leaf(G5, 1, ((3,), (3,)), (9, 9))), (one, one, leaf(G5, 1, (), ())),
            (leaf(G5, 1, (), ()), leaf(G5, 2, (), ())), (leaf(G5, 0, ((),), (3,)), leaf(G5, 0, (), ())),
        )
        for leaves in wrong:
            self.assertEqual(raised_by(batch, G5, leaves, 1), BadBatch)
            self.assertEqual(raised_by(holding_weights, G5, leaves), BadBatch)
            self.assertEqual(raised_by(batch_share, G5, leaves), BadBatch)
            for pairs in ((), ((0, (0,)), (1, (0,))), ((0, ()), (0, ())), ((0, 3), (1, 3), (2, 3))):
                self.assertEqual(raised_by(split_batch, G5, leaves, pairs), BadBatch)

    def test_equal_matrices(self):
        # Equal leaves need not be one object.
        first = leaf(G5, 1, ((3,),), (9,))
        second = leaf(G5, 1, (tuple([3]),), (4,))
        self.assertEqual(batch(G5, (first, second), 2)[3], (G5.multiply(9, G5.power(4, 2)),))
