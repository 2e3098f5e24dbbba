import itertools
import math
import random
import unittest
from fractions import Fraction

from hushpapers.groups import PowerGroup
from hushpapers.ratios import at_most
from hushpapers.runs import accepts, begin, mimic, respond
from hushpapers.statements import either, every, find_witness, holds, leaf, tape_length
from hushpapers.strategies import (
    best_chain, best_share, best_strategy, chain_share, chain_success, round_share, side_success,
    success,
)
from tests.plain_runs import accepted_answers, all_starts, plain_accepts, random_tape, small_statements
from tests.plain_statements import plain_holds
from tests.run_samples import EXAMPLE, G3, G5, G7, G127, T5, WRONG, edge_statements
from tests.samples import rows_of, small_groups, table_group

FALSE_3 = leaf(G3, 1, ((1,),), (2,))
TRUE_3 = leaf(G3, 1, ((2,),), (4,))
EMPTY_3 = leaf(G3, 0, (), ())


def pair(fraction):
    return fraction.numerator, fraction.denominator


class Success(unittest.TestCase):
    def test_tables(self):
        numbers = random.Random(1)
        for group, statement in small_statements(2, 150, 10 ** 5):
            tape = random_tape(numbers, group, statement)
            runs = [mimic(group, statement, c, tape) for c in range(group.order)]
            start = numbers.choice(runs)[0]
            table = tuple(numbers.choice(runs)[2] for _ in range(group.order))
            good = sum(plain_accepts(group, statement, start, c, answer) for c, answer in enumerate(table))
            self.assertEqual(success(group, statement, start, table), pair(Fraction(good, group.order)))

    def test_answers_of_other_forms(self):
        for group in small_groups():
            for statement in edge_statements(group):
                start, table = best_strategy(group, statement)
                if not holds(group, statement):
                    continue
                for wrong in WRONG:
                    changed = (wrong, *table[1:-1], wrong)
                    accepted = [accepts(group, statement, (start, c, wrong)) for c in (0, group.order - 1)]
                    expected = Fraction(group.order - 2 + sum(accepted), group.order)
                    self.assertEqual(success(group, statement, start, changed), pair(expected))
        self.assertEqual(success(G5, EXAMPLE, ((4,), (9,)), WRONG[:5]), (0, 1))

    def test_best_share(self):
        for group, statement in small_statements(3, 60, 130, 300):
            best = max(
                sum(1 for c in range(group.order) if accepted_answers(group, statement, start, c))
                for start in all_starts(group, statement)
            )
            self.assertEqual(best_share(group, statement), pair(Fraction(best, group.order)))
            self.assertEqual(best_share(group, statement)[0], 1)
            self.assertEqual(best_share(group, statement) == (1, 1), plain_holds(group, statement))

    def test_best_strategy(self):
        for group, statement in small_statements(4, 200, 10 ** 6):
            start, table = best_strategy(group, statement)
            self.assertEqual(len(table), group.order)
            self.assertEqual(success(group, statement, start, table), best_share(group, statement))
            tape = (0,) * tape_length(statement)
            witness = find_witness(group, statement)
            if witness is None:
                run = mimic(group, statement, 0, tape)
                self.assertEqual((start, table), (run[0], (run[2],) * group.order))
            else:
                self.assertEqual(start, begin(group, statement, witness, tape))
                answers = [respond(group, statement, witness, tape, c) for c in range(group.order)]
                self.assertEqual(table, tuple(answers))

    def test_large_order(self):
        true = leaf(G127, 2, ((G127.generator, 1),), (G127.power(G127.generator, 3),))
        false = leaf(G127, 1, ((1,),), (G127.generator,))
        for statement, share in ((either(G127, (false, true)), (1, 1)), (every(G127, (false, true)), (1, 127))):
            start, table = best_strategy(G127, statement)
            self.assertEqual(best_share(G127, statement), share)
            self.assertEqual(success(G127, statement, start, table), share)


class Rounds(unittest.TestCase):
    def test_by_counting(self):
        for q in (3, 5, 7):
            for rounds in range(5):
                for need in range(-2, rounds + 3):
                    good = sum(1 for row in rows_of(q, rounds) if row.count(0) >= need)
                    expected = pair(Fraction(good, q ** rounds))
                    self.assertEqual(round_share(q, rounds, need), expected)

    def test_edges(self):
        for q, rounds in ((3, 0), (5, 1), (127, 30), (11, 7)):
            for need in (0, -1, -10 ** 59):
                self.assertEqual(round_share(q, rounds, need), (1, 1))
            for need in (rounds + 1, rounds + 2, 10 ** 59):
                self.assertEqual(round_share(q, rounds, need), (0, 1))
            self.assertEqual(round_share(q, rounds, rounds), (1, q ** rounds))

    def test_thirty_rounds(self):
        for need in range(1, 31):
            good = sum(math.comb(30, j) * 126 ** (30 - j) for j in range(need, 31))
            self.assertEqual(round_share(127, 30, need), pair(Fraction(good, 127 ** 30)))
        self.assertEqual(round_share(127, 30, 1), pair(1 - Fraction(126, 127) ** 30))


def random_chain(numbers, group, statements):
    """Return a chain of which about half of the rounds are accepted, other after each challenge."""
    if not statements:
        return ()
    tape = random_tape(numbers, group, statements[0])
    known = numbers.randrange(group.order)
    start = mimic(group, statements[0], known, tape)[0]
    moves = []
    for challenge in range(group.order):
        good = accepted_answers(group, statements[0], start, challenge)
        answer = numbers.choice([*good, (), 3, ((1, 1), ()), *good])
        moves.append((answer, random_chain(numbers, group, statements[1:])))
    return start, tuple(moves)


def plain_chain_success(group, statements, chain, need):
    good = 0
    for challenges in rows_of(group.order, len(statements)):
        accepted, rest = 0, chain
        for statement, challenge in zip(statements, challenges, strict=True):
            start, moves = rest
            answer, rest = moves[challenge]
            accepted += accepts(group, statement, (start, challenge, answer))
        good += accepted >= need
    return pair(Fraction(good, group.order ** len(statements)))


def optimum(group, statements, need):
    """Return the greatest success of all chains, as a fraction."""
    if not statements:
        return Fraction(1 if need <= 0 else 0)
    hit = optimum(group, statements[1:], need - 1)
    miss = optimum(group, statements[1:], need)
    counts = {
        sum(1 for c in range(group.order) if accepted_answers(group, statements[0], start, c))
        for start in all_starts(group, statements[0])
    }
    return max((hit * many + miss * (group.order - many)) / group.order for many in counts)


class Chains(unittest.TestCase):
    def test_no_rounds(self):
        for need, expected in ((-1, (1, 1)), (0, (1, 1)), (1, (0, 1)), (10 ** 50, (0, 1))):
            self.assertEqual(chain_success(G5, (), (), need), expected)
            self.assertEqual(chain_share(G5, (), need), expected)
            self.assertEqual(side_success(G5, (), (), ((),), need), expected)
        self.assertEqual(best_chain(G5, ()), ())

    def test_random_chains(self):
        numbers = random.Random(5)
        for group, statement in small_statements(6, 40, 130):
            rounds = numbers.randrange(1, 4) if group.order < 7 else numbers.randrange(1, 3)
            statements = tuple(numbers.choice((statement, *edge_statements(group)[:4])) for _ in range(rounds))
            chain = random_chain(numbers, group, statements)
            for need in range(-1, rounds + 2):
                found = chain_success(group, statements, chain, need)
                self.assertEqual(found, plain_chain_success(group, statements, chain, need))
                self.assertTrue(at_most(found, chain_share(group, statements, need)))

    def test_share_is_the_greatest(self):
        numbers = random.Random(7)
        for group, statement in small_statements(8, 30, 60, 60):
            statements = [statement, *edge_statements(group)[:3], edge_statements(group)[4]]
            numbers.shuffle(statements)
            for rounds in range(5):
                for need in range(-1, rounds + 2):
                    some = tuple(statements[:rounds])
                    expected = pair(optimum(group, some, need))
                    self.assertEqual(chain_share(group, some, need), expected)

    def test_best_chain(self):
        for group in (G3, table_group((2, 0, 1)), G5, T5, G7):
            edges = edge_statements(group)
            for statements in (
                (edges[0],), (edges[1],), (edges[1], edges[0], edges[4]), (edges[4], edges[4], edges[1]),
                (edges[13], edges[14], edges[15]), (edges[1],) * 3,
            ):
                chain = best_chain(group, statements)
                for need in range(-1, 5):
                    share = chain_share(group, statements, need)
                    self.assertEqual(chain_success(group, statements, chain, need), share)
                rest = chain
                for statement in statements:
                    start, table = best_strategy(group, statement)
                    self.assertEqual(rest[0], start)
                    self.assertEqual(tuple(move[0] for move in rest[1]), table)
                    self.assertEqual(len({move[1] for move in rest[1]}), 1)
                    rest = rest[1][0][1]
                self.assertEqual(rest, ())

    def test_later_starts_hang_on_earlier_challenges(self):
        # After challenge c, the start of the second round is made for challenge c.
        starts = [mimic(G3, FALSE_3, c, (0,))[0] for c in range(3)]
        later = [(start, (((0,), ()),) * 3) for start in starts]
        chain = (starts[2], tuple(((0,), one) for one in later))
        self.assertEqual(chain_success(G3, (FALSE_3, FALSE_3), chain, 0), (1, 1))
        self.assertEqual(chain_success(G3, (FALSE_3, FALSE_3), chain, 1), (5, 9))
        self.assertEqual(chain_success(G3, (FALSE_3, FALSE_3), chain, 2), (1, 9))
        # Here the second round is given up after each challenge but 1.
        moves = tuple(((0,), later[1] if c == 1 else (starts[0], ((4, ()),) * 3)) for c in range(3))
        chain = (starts[1], moves)
        self.assertEqual(chain_success(G3, (FALSE_3, FALSE_3), chain, 1), (1, 3))
        self.assertEqual(chain_success(G3, (FALSE_3, FALSE_3), chain, 2), (1, 9))

    def test_order_of_statements(self):
        statements = (FALSE_3, TRUE_3, EMPTY_3, FALSE_3)
        self.assertEqual(chain_share(G3, statements, 2), (1, 1))
        self.assertEqual(chain_share(G3, statements, 3), (5, 9))
        self.assertEqual(chain_share(G3, statements, 4), (1, 9))
        self.assertEqual(chain_share(G3, statements, 5), (0, 1))

    def test_thirty_rounds(self):
        group = PowerGroup(509, 127)
        false = leaf(group, 1, ((1,),), (group.generator,))
        true = leaf(group, 1, (), ())
        self.assertEqual(chain_share(group, (false,) * 30, 3), round_share(127, 30, 3))
        self.assertEqual(chain_share(group, (false, true) * 15, 16), round_share(127, 15, 1))
        self.assertEqual(chain_share(group, (false,) * 30, 30), (1, 127 ** 30))


class Sides(unittest.TestCase):
    def test_random_tables(self):
        numbers = random.Random(9)
        for group, statement in small_statements(10, 40, 130):
            rounds = numbers.randrange(1, 4) if group.order < 7 else numbers.randrange(1, 3)
            statements = tuple(numbers.choice((statement, *edge_statements(group)[:4])) for _ in range(rounds))
            starts = tuple(
                mimic(group, one, numbers.randrange(group.order), random_tape(numbers, group, one))[0]
                for one in statements
            )
            table, counts = [], []
            for challenges in rows_of(group.order, rounds):
                answers, accepted = [], 0
                for one, start, challenge in zip(statements, starts, challenges, strict=True):
                    good = accepted_answers(group, one, start, challenge)
                    answers.append(numbers.choice([*good, (), 3, ((1, 1), ()), *good]))
                    accepted += accepts(group, one, (start, challenge, answers[-1]))
                table.append(tuple(answers))
                counts.append(accepted)
            for need in range(-1, rounds + 2):
                expected = Fraction(sum(count >= need for count in counts), len(counts))
                found = side_success(group, statements, starts, tuple(table), need)
                self.assertEqual(found, pair(expected))
                self.assertTrue(at_most(found, chain_share(group, statements, need)))

    def test_best_table(self):
        for group in (G3, table_group((2, 0, 1)), G5):
            edges = edge_statements(group)
            for statements in ((edges[1], edges[0], edges[4]), (edges[4], edges[4], edges[1])):
                strategies = [best_strategy(group, statement) for statement in statements]
                starts = tuple(start for start, _ in strategies)
                table = tuple(
                    tuple(strategies[at][1][c] for at, c in enumerate(challenges))
                    for challenges in rows_of(group.order, 3)
                )
                for need in range(-1, 5):
                    share = chain_share(group, statements, need)
                    self.assertEqual(side_success(group, statements, starts, table, need), share)

    def test_answers_that_hang_on_all_challenges(self):
        # The first round is answered only where the second challenge is 2.
        start, table = best_strategy(G3, TRUE_3)
        entries = tuple(
            (table[first] if second == 2 else (3,), (0,))
            for first, second in itertools.product(range(3), repeat=2)
        )
        false_start = mimic(G3, FALSE_3, 1, (0,))[0]
        starts = (start, false_start)
        self.assertEqual(side_success(G3, (TRUE_3, FALSE_3), starts, entries, 1), (2, 3))
        self.assertEqual(side_success(G3, (TRUE_3, FALSE_3), starts, entries, 2), (0, 1))
