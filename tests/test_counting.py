import itertools
import random
import unittest
from collections import Counter

from hushpapers.counting import (
    count_answers, count_starts, freedom, honest_runs, kept_runs, mimic_runs,
)
from hushpapers.errors import BadWitness
from hushpapers.runs import answerable, mimic, run_of
from hushpapers.statements import at_least, either, every, holds, leaf, tape_length
from tests.plain_runs import (
    accepted_answers, all_starts, random_tape, random_witness, small_statements,
)
from tests.plain_statements import all_witnesses, plain_holds
from tests.run_samples import EXAMPLE, G3, G5, G7, G127, T5, edge_statements
from tests.samples import raised_by, rows_of, small_groups

OTHER_CHALLENGES = (-1, -3, 127, 10 ** 59, -10 ** 59)


class Answerable(unittest.TestCase):
    def check(self, group, statement, starts):
        """Check answerable and count_answers by trying; return the numbers of challenges."""
        sizes = Counter()
        for start in starts:
            counts = [
                len(accepted_answers(group, statement, start, challenge)) for challenge in range(group.order)
            ]
            found = answerable(group, statement, start)
            self.assertEqual(found, tuple(c for c, count in enumerate(counts) if count > 0))
            for challenge, count in enumerate(counts):
                self.assertEqual(count_answers(group, statement, start, challenge), count)
            for challenge in (group.order, *OTHER_CHALLENGES):
                self.assertEqual(count_answers(group, statement, start, challenge), 0)
            sizes[len(found)] += 1
        return sizes

    def test_by_trying_all_answers(self):
        total = Counter()
        numbers = random.Random(1)
        for group, statement in small_statements(2, 130, 130):
            starts = all_starts(group, statement) if tape_length(statement) < 5 else []
            if len(starts) > 30:
                starts = numbers.sample(starts, 30)
            tape = random_tape(numbers, group, statement)
            starts.append(mimic(group, statement, numbers.randrange(group.order), tape)[0])
            for size, count in self.check(group, statement, starts).items():
                # None, one or all: and one only if the statement does not hold.
                self.assertIn(size, (0, group.order) if plain_holds(group, statement) else (0, 1))
                total[min(size, 2)] += count
        self.assertGreater(min(total[0], total[1], total[2]), 150, total)

    def test_edges(self):
        for group in small_groups()[:4]:
            for statement in edge_statements(group):
                starts = all_starts(group, statement) if tape_length(statement) < 5 else []
                self.check(group, statement, starts[:120])

    def test_start_of_mimic(self):
        numbers = random.Random(3)
        for group, statement in small_statements(4, 200, 10 ** 6):
            challenge = numbers.randrange(group.order)
            start = mimic(group, statement, challenge, random_tape(numbers, group, statement))[0]
            expected = tuple(range(group.order)) if holds(group, statement) else (challenge,)
            self.assertEqual(answerable(group, statement, start), expected)

    def test_kids_with_none_one_and_all(self):
        b = G5.generator
        none_or_all = leaf(G5, 1, ((1,), (b,)), (1, b))
        one = leaf(G5, 0, ((),), (b,))
        free = leaf(G5, 1, (), ())
        start_none, start_all = (b, 1), (1, 1)

        def start_of(challenge):
            return (G5.power(b, -challenge),)

        for challenge in range(5):
            self.assertEqual(answerable(G5, one, start_of(challenge)), (challenge,))
        everything = (0, 1, 2, 3, 4)
        two_of_four = at_least(G5, 2, (one, free, one, none_or_all))
        for first, second in itertools.product(range(5), repeat=2):
            start = (start_of(first), (), start_of(second), start_all)
            self.assertEqual(answerable(G5, two_of_four, start), everything)
            start = (start_of(first), (), start_of(second), start_none)
            self.assertEqual(answerable(G5, two_of_four, start), ())
        three_of_four = at_least(G5, 3, (one, free, one, none_or_all))
        for first, second in itertools.product(range(5), repeat=2):
            start = (start_of(first), (), start_of(second), start_all)
            # The line through (1, first) and (3, second), at 0.
            expected = (first - (second - first) * 3) % 5
            self.assertEqual(answerable(G5, three_of_four, start), (expected,))
        two_of_three = at_least(G5, 2, (one, one, one))
        for shares in itertools.product(range(5), repeat=3):
            found = answerable(G5, two_of_three, tuple(start_of(share) for share in shares))
            fitting = (shares[0] - 2 * shares[1] + shares[2]) % 5 == 0
            self.assertEqual(found, ((2 * shares[0] - shares[1]) % 5,) if fitting else ())
        both = every(G5, (one,) * 7)
        self.assertEqual(answerable(G5, both, (start_of(3),) * 7), (3,))
        self.assertEqual(answerable(G5, both, (start_of(3),) * 6 + (start_of(4),)), ())
        self.assertEqual(answerable(G5, every(G5, ()), ()), everything)

    def test_large_order(self):
        b = G127.generator

        def leaf_of(*targets):
            return leaf(G127, 1, ((b,), (b,)), tuple(G127.power(b, e) for e in targets))

        def start_of(first, second):
            return (G127.power(b, first), G127.power(b, second))

        # A solution asks for first + c * 3 = second + c * 4.
        for first, second in ((0, 0), (5, 1), (1, 5), (126, 0)):
            found = answerable(G127, leaf_of(3, 4), start_of(first, second))
            self.assertEqual(found, ((first - second) % 127,))
        self.assertEqual(answerable(G127, leaf_of(3, 3), start_of(9, 9)), tuple(range(127)))
        self.assertEqual(answerable(G127, leaf_of(3, 3), start_of(9, 8)), ())
        self.assertEqual(count_answers(G127, leaf_of(3, 3), start_of(9, 9), 126), 1)
        wide = leaf(G127, 16, ((b,) * 16,) * 16, (b,) * 16)
        self.assertEqual(answerable(G127, wide, (b,) * 16), tuple(range(127)))
        self.assertEqual(count_answers(G127, wide, (b,) * 16, 5), 127 ** 15)
        self.assertEqual(count_answers(G127, wide, (b,) * 16, 127), 0)
        wrong = leaf(G127, 16, ((b,) * 16,) * 16, (b,) * 15 + (1,))
        self.assertEqual(answerable(G127, wrong, (b,) * 16), (0,))
        start = (start_of(7, 1), (b,) * 16, start_of(2, 2))
        statement = at_least(G127, 2, (leaf_of(3, 4), wide, leaf_of(4, 5)))
        # Shares 6 at place 1 and 0 at place 3, on a line.
        self.assertEqual(answerable(G127, statement, start), (9,))


class Counts(unittest.TestCase):
    def test_example(self):
        self.assertEqual(freedom(G5, EXAMPLE), 1)
        self.assertEqual(count_answers(G5, EXAMPLE, ((4,), (9,)), 3), 5)
        self.assertEqual(count_starts(G5, EXAMPLE), 25)

    def test_freedom_of_leaves(self):
        b = G7.generator
        square = G7.multiply(b, b)
        self.assertEqual(freedom(G7, leaf(G7, 3, (), ())), 3)
        self.assertEqual(freedom(G7, leaf(G7, 0, ((),), (b,))), 0)
        self.assertEqual(freedom(G7, leaf(G7, 2, ((b, square), (square, G7.power(b, 4))), (b, b))), 1)
        self.assertEqual(freedom(G7, leaf(G7, 2, ((b, square), (square, b)), (b, b))), 0)
        self.assertEqual(freedom(G7, leaf(G7, 2, ((1, 1),), (1,))), 2)

    def test_freedom_of_nodes(self):
        b = G7.generator
        true = leaf(G7, 1, (), ())
        false = leaf(G7, 1, ((1,),), (b,))
        solved = leaf(G7, 1, ((b,),), (b,))
        for failing in range(5):
            kids = (false,) * failing + (solved,) * (4 - failing)
            for need in range(5):
                expected = failing + max(0, 4 - need - failing)
                self.assertEqual(freedom(G7, at_least(G7, need, kids)), expected)
        inner = every(G7, (false, true))
        self.assertEqual(freedom(G7, inner), 2)
        self.assertEqual(freedom(G7, at_least(G7, 1, (inner, solved, inner, true))), 6)
        self.assertEqual(freedom(G7, at_least(G7, 0, ())), 0)

    def test_starts_by_trying(self):
        holding = Counter()
        for group, statement in small_statements(5, 120, 130, 700):
            starts = [
                start for start in all_starts(group, statement)
                if any(accepted_answers(group, statement, start, c) for c in range(group.order))
            ]
            self.assertEqual(count_starts(group, statement), len(starts))
            holding[plain_holds(group, statement)] += 1
        self.assertGreater(min(holding.values()), 15, holding)

    def test_starts_of_edges(self):
        for group in small_groups()[:4]:
            for statement in edge_statements(group):
                if tape_length(statement) < 4:
                    starts = [one for one in all_starts(group, statement) if answerable(group, statement, one)]
                    self.assertEqual(count_starts(group, statement), len(starts))

    def test_large(self):
        b = G127.generator
        one = leaf(G127, 4, ((b,) * 4,) * 3, (b,) * 3)
        false = leaf(G127, 4, ((b,) * 4,) * 3, (b, b, 1))
        node = at_least(G127, 7, (one,) * 9 + (false,))
        self.assertEqual(freedom(G127, node), 30 + 2)
        statement = every(G127, (node,) * 9)
        self.assertEqual(freedom(G127, statement), 9 * 32)
        self.assertEqual(count_starts(G127, statement), 127 ** (9 * 43 - 9 * 32))
        fails = every(G127, (node,) * 8 + (false,))
        self.assertEqual(count_starts(G127, fails), 127 ** (8 * 43 + 4 - 8 * 32 - 3 + 1))


class Runs(unittest.TestCase):
    def test_mimic_runs(self):
        for group, statement in small_statements(6, 60, 130):
            for challenge in (0, group.order - 1):
                expected = [
                    mimic(group, statement, challenge, tape)
                    for tape in rows_of(group.order, tape_length(statement))
                ]
                self.assertEqual(list(mimic_runs(group, statement, challenge)), expected)

    def test_first_runs_come_at_once(self):
        one = leaf(G127, 64, ((G127.generator,) * 64,), (1,))
        statement = either(G127, (one,) * 6)
        runs = mimic_runs(G127, statement, 100)
        length = tape_length(statement)
        self.assertEqual(next(runs), mimic(G127, statement, 100, (0,) * length))
        self.assertEqual(next(runs), mimic(G127, statement, 100, (0,) * (length - 1) + (1,)))
        for _ in range(126):
            last = next(runs)
        self.assertEqual(last, mimic(G127, statement, 100, (0,) * (length - 2) + (1, 0)))

    def test_honest_runs(self):
        numbers = random.Random(7)
        for group, statement in small_statements(8, 80, 130):
            witness = random_witness(numbers, group, statement)
            if witness is None:
                self.assertEqual(raised_by(honest_runs, group, statement, (), {}), BadWitness)
                continue
            judge = random_judge(numbers, group, statement)
            before = dict(judge)
            expected = []
            for tape in rows_of(group.order, tape_length(statement)):
                start = run_of(group, statement, witness, tape, 0)[0]
                expected.append(run_of(group, statement, witness, tape, judge.get(start, 0)))
            self.assertEqual(honest_runs(group, statement, witness, judge), tuple(expected))
            self.assertEqual(judge, before)

    def test_kept_runs(self):
        numbers = random.Random(9)
        for group, statement in small_statements(10, 60, 130):
            judge = random_judge(numbers, group, statement)
            before = dict(judge)
            expected = [
                run for challenge in range(group.order) for run in mimic_runs(group, statement, challenge)
                if (judge[run[0]] if run[0] in judge else 0) == challenge
            ]
            self.assertEqual(kept_runs(group, statement, judge), tuple(expected))
            self.assertEqual(judge, before)

    def test_kept_runs_are_the_honest_runs(self):
        numbers = random.Random(11)
        checked = 0
        for group, statement in small_statements(12, 80, 130):
            judges = [{}, random_judge(numbers, group, statement), random_judge(numbers, group, statement)]
            for judge in judges if plain_holds(group, statement) else []:
                kept = kept_runs(group, statement, judge)
                self.assertEqual(len(kept), group.order ** tape_length(statement))
                self.assertEqual(len(set(kept)), len(kept))
                for witness in all_witnesses(group, statement)[:4]:
                    runs = honest_runs(group, statement, witness, judge)
                    self.assertEqual(sorted(runs), sorted(kept))
                    checked += 1
        self.assertGreater(checked, 200)

    def test_judge_for_the_example(self):
        judge = {((4,), (9,)): 3, ((1,), (1,)): 4}
        runs = honest_runs(G5, EXAMPLE, (None, (3,)), judge)
        self.assertEqual(len(runs), 125)
        self.assertEqual(runs[2 * 25 + 4 * 5 + 1], (((4,), (9,)), 3, ((2, 1), ((4,), (4,)))))
        self.assertEqual({run[1] for run in runs if run[0] not in judge}, {0})
        self.assertEqual({run[1] for run in runs if run[0] in judge}, {3, 4})

    def test_kept_runs_of_what_does_not_hold(self):
        false = leaf(G3, 1, ((1,),), (2,))
        # Each start can be answered for one challenge only.
        self.assertEqual(kept_runs(G3, false, {}), tuple(((1,), 0, (r,)) for r in range(3)))
        judge = {(4,): 1, (2,): 2, (1,): 1}
        expected = tuple(((4,), 1, (r,)) for r in range(3)) + tuple(((2,), 2, (r,)) for r in range(3))
        self.assertEqual(kept_runs(G3, false, judge), expected)
        self.assertEqual(kept_runs(G3, false, {(1,): 1}), ())

    def test_honest_runs_raise_bad_witness(self):
        for witness in ((None, None), (None, (2,)), (), None, 3, ((1,), (2,)), (None, (8,))):
            self.assertEqual(raised_by(honest_runs, G5, EXAMPLE, witness, {}), BadWitness)

    def test_translated_to_another_group(self):
        def carried(value):
            if isinstance(value, tuple):
                return tuple(carried(item) for item in value)
            return T5.power(T5.generator, G5.log(3, value))

        other = either(T5, tuple(
            leaf(T5, 1, carried(kid[2]), carried(kid[3])) for kid in EXAMPLE[2]
        ))
        judge = {((4,), (9,)): 3, ((1,), (1,)): 4}
        translated = {carried(start): challenge for start, challenge in judge.items()}
        expected = tuple((carried(run[0]), *run[1:]) for run in kept_runs(G5, EXAMPLE, judge))
        self.assertEqual(kept_runs(T5, other, translated), expected)
        self.assertEqual(freedom(T5, other), freedom(G5, EXAMPLE))


def random_judge(numbers, group, statement):
    """Return a judge who knows about two thirds of the starts that mimic makes."""
    judge = {}
    for challenge in range(group.order):
        for run in mimic_runs(group, statement, challenge):
            if run[0] not in judge and numbers.randrange(3):
                judge[run[0]] = numbers.randrange(group.order)
    return judge
