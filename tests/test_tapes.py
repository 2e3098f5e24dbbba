import random
import unittest
from collections import Counter

from hushpapers.errors import BadWitness, DifferentStarts, NotAccepted, SameChallenge
from hushpapers.runs import accepts, extract, matching_tape, mimic, mimic_tape, run_of
from hushpapers.statements import active_part, at_least, either, every, fits, leaf, tape_length
from tests.plain_runs import (
    accepted_answers, all_starts, random_tape, random_witness, small_statements, with_part,
)
from tests.plain_statements import all_witnesses
from tests.run_samples import EXAMPLE, G3, G5, G7, G127, RUN, WRONG, edge_statements
from tests.samples import raised_by, rows_of, small_groups


class Tapes(unittest.TestCase):
    def test_example(self):
        self.assertEqual(matching_tape(G5, EXAMPLE, (None, (3,)), RUN), (2, 4, 1))
        self.assertEqual(matching_tape(G5, EXAMPLE, ((1,), None), RUN), (1, 2, 4))
        self.assertEqual(matching_tape(G5, EXAMPLE, ((1,), (3,)), RUN), (1, 2, 4))
        self.assertEqual(mimic_tape(G5, EXAMPLE, RUN), (2, 4, 4))
        self.assertEqual(mimic(G5, EXAMPLE, 3, (2, 4, 4)), RUN)

    def test_give_back_the_tape(self):
        numbers = random.Random(1)
        for group, statement in small_statements(2, 300, 10 ** 6):
            challenge = numbers.randrange(group.order)
            tape = random_tape(numbers, group, statement)
            run = mimic(group, statement, challenge, tape)
            self.assertEqual(mimic_tape(group, statement, run), tape)
            for _ in range(3):
                witness = random_witness(numbers, group, statement)
                if witness is not None:
                    other = run_of(group, statement, witness, tape, challenge)
                    self.assertEqual(matching_tape(group, statement, witness, other), tape)
                    matching = matching_tape(group, statement, witness, run)
                    self.assertEqual(run_of(group, statement, witness, matching, challenge), run)

    def test_edges(self):
        numbers = random.Random(3)
        for group in small_groups():
            for statement in edge_statements(group):
                for challenge in range(group.order):
                    tape = random_tape(numbers, group, statement)
                    run = mimic(group, statement, challenge, tape)
                    self.assertEqual(mimic_tape(group, statement, run), tape)
                    witness = random_witness(numbers, group, statement)
                    if witness is not None:
                        run = run_of(group, statement, witness, tape, challenge)
                        self.assertEqual(matching_tape(group, statement, witness, run), tape)

    def test_large_order(self):
        numbers = random.Random(4)
        b = G127.generator
        one = leaf(G127, 2, ((b, G127.power(b, 5)),), (G127.power(b, 9),))
        false = leaf(G127, 1, ((1,),), (b,))
        statement = at_least(G127, 3, (one, false, at_least(G127, 2, (one,) * 4), false, one))
        witness = ((4, 1), None, (None, (9, 0), (4, 1), (104, 108)), None, (4, 1))
        self.assertTrue(fits(G127, statement, witness))
        for challenge in (0, 1, 64, 126):
            tape = random_tape(numbers, G127, statement)
            run = run_of(G127, statement, witness, tape, challenge)
            self.assertEqual(matching_tape(G127, statement, witness, run), tape)
            self.assertEqual(mimic(G127, statement, challenge, mimic_tape(G127, statement, run)), run)

    def test_the_same_runs_for_all_witnesses(self):
        checked = 0
        for group, statement in small_statements(5, 80, 130, 1400):
            witnesses = all_witnesses(group, statement)
            q = group.order
            tapes = rows_of(q, tape_length(statement))
            for challenge in range(q):
                expected = Counter(
                    (start, challenge, answer) for start in all_starts(group, statement)
                    for answer in accepted_answers(group, statement, start, challenge)
                )
                self.assertEqual(len(expected), len(tapes))
                mimicked = Counter(mimic(group, statement, challenge, tape) for tape in tapes)
                self.assertEqual(mimicked, expected)
                for witness in witnesses[:6]:
                    runs = Counter(run_of(group, statement, witness, tape, challenge) for tape in tapes)
                    self.assertEqual(runs, expected)
                    checked += 1
        self.assertGreater(checked, 300)

    def test_the_same_runs_for_all_witnesses_of_the_example(self):
        tapes = rows_of(5, 3)
        expected = {mimic(G5, EXAMPLE, 3, tape) for tape in tapes}
        self.assertEqual(len(expected), 125)
        for witness in ((None, (3,)), ((1,), None), ((1,), (3,))):
            self.assertEqual({run_of(G5, EXAMPLE, witness, tape, 3) for tape in tapes}, expected)


class TapeErrors(unittest.TestCase):
    refused = (
        with_part(RUN, (1,), 4), with_part(RUN, (1,), 5), with_part(RUN, (0, 0, 0), 5), with_part(RUN, (0, 1, 0), 2),
        with_part(RUN, (2, 0), (1, 2)), with_part(RUN, (2, 1, 0, 0), 3), with_part(RUN, (2, 1, 1), ()),
    )

    def test_not_accepted(self):
        for run in self.refused:
            self.assertEqual(raised_by(mimic_tape, G5, EXAMPLE, run), NotAccepted)
            self.assertEqual(raised_by(matching_tape, G5, EXAMPLE, (None, (3,)), run), NotAccepted)
        for wrong in WRONG:
            for run in ((wrong, 3, RUN[2]), (RUN[0], 3, wrong), (wrong, 3, wrong)):
                self.assertEqual(raised_by(mimic_tape, G5, EXAMPLE, run), NotAccepted)
                self.assertEqual(raised_by(matching_tape, G5, EXAMPLE, ((1,), None), run), NotAccepted)

    def test_bad_witness_comes_first(self):
        for witness in ((None, None), (None, (2,)), ((1,), (2,)), (None,), (), 3, None, (None, (8,))):
            for run in (RUN, *self.refused):
                self.assertEqual(raised_by(matching_tape, G5, EXAMPLE, witness, run), BadWitness)

    def test_what_does_not_hold_has_mimic_tapes_only(self):
        false = leaf(G5, 1, ((1,),), (3,))
        run = mimic(G5, false, 2, (4,))
        self.assertEqual(mimic_tape(G5, false, run), (4,))
        self.assertEqual(raised_by(matching_tape, G5, false, (0,), run), BadWitness)


class Extracting(unittest.TestCase):
    def test_example(self):
        first = run_of(G5, EXAMPLE, (None, (3,)), (2, 4, 1), 3)
        second = run_of(G5, EXAMPLE, (None, (3,)), (2, 4, 1), 0)
        self.assertEqual(extract(G5, EXAMPLE, first, second), (None, (3,)))

    def test_honest_runs_of_one_tape(self):
        numbers = random.Random(6)
        checked = 0
        for group, statement in small_statements(7, 300, 10 ** 6):
            witness = random_witness(numbers, group, statement)
            if witness is None:
                continue
            tape = random_tape(numbers, group, statement)
            for _ in range(3):
                first, second = numbers.sample(range(group.order), 2)
                found = extract(
                    group, statement, run_of(group, statement, witness, tape, first),
                    run_of(group, statement, witness, tape, second),
                )
                self.assertEqual(found, active_part(statement, witness))
                checked += witness != active_part(statement, witness)
        self.assertGreater(checked, 60)

    def test_any_runs_with_one_start(self):
        numbers = random.Random(8)
        checked = 0
        for group, statement in small_statements(9, 200, 200):
            start = mimic(group, statement, 0, random_tape(numbers, group, statement))[0]
            runs = [
                (start, challenge, answer) for challenge in range(group.order)
                for answer in accepted_answers(group, statement, start, challenge)
            ]
            for _ in range(20):
                first, second = numbers.choice(runs), numbers.choice(runs)
                if first[1] != second[1]:
                    found = extract(group, statement, first, second)
                    self.assertTrue(fits(group, statement, found))
                    self.check_nones(statement, first[2], second[2], found)
                    checked += 1
        self.assertGreater(checked, 1000)

    def check_nones(self, statement, first, second, found):
        if statement[0] == "some":
            for at, kid in enumerate(statement[2]):
                self.assertEqual(found[at] is None, first[0][at] == second[0][at])
                if found[at] is not None:
                    self.check_nones(kid, first[1][at], second[1][at], found[at])

    def test_more_kids_than_q(self):
        statement = every(G3, (leaf(G3, 1, ((2,),), (4,)),) * 20)
        first, second = [run_of(G3, statement, ((2,),) * 20, (0, 1) * 10, c) for c in (0, 2)]
        self.assertEqual(extract(G3, statement, first, second), ((2,),) * 20)

    def test_formula_of_a_leaf(self):
        statement = leaf(G7, 3, (), ())
        found = extract(G7, statement, ((), 1, (1, 2, 3)), ((), 4, (0, 6, 3)))
        self.assertEqual([-3 * x % 7 for x in found], [1, 3, 0])

    def test_errors(self):
        witness, tape = (None, (3,)), (2, 4, 1)
        first = run_of(G5, EXAMPLE, witness, tape, 3)
        second = run_of(G5, EXAMPLE, witness, tape, 0)
        elsewhere = run_of(G5, EXAMPLE, witness, (2, 4, 2), 0)
        same = run_of(G5, EXAMPLE, witness, (2, 4, 2), 3)
        bad = with_part(second, (2, 1, 0, 0), 1)
        bad_same = with_part(first, (2, 1, 0, 0), 1)
        self.assertFalse(accepts(G5, EXAMPLE, bad) or accepts(G5, EXAMPLE, bad_same))
        for wrong in (bad, bad_same, with_part(elsewhere, (1,), 2), ((), 0, ()), (RUN[0], 3, ())):
            self.assertEqual(raised_by(extract, G5, EXAMPLE, wrong, first), NotAccepted)
            self.assertEqual(raised_by(extract, G5, EXAMPLE, first, wrong), NotAccepted)
            self.assertEqual(raised_by(extract, G5, EXAMPLE, wrong, wrong), NotAccepted)
        self.assertEqual(raised_by(extract, G5, EXAMPLE, first, elsewhere), DifferentStarts)
        self.assertEqual(raised_by(extract, G5, EXAMPLE, first, same), DifferentStarts)
        self.assertEqual(raised_by(extract, G5, EXAMPLE, first, first), SameChallenge)
        tapes = [(2, 4, 1), (1, 2, 4)]
        others = [run_of(G5, EXAMPLE, w, t, 3) for w, t in zip(((None, (3,)), ((1,), None)), tapes, strict=True)]
        self.assertEqual(raised_by(extract, G5, EXAMPLE, *others), SameChallenge)

    def test_same_challenge_with_other_answers(self):
        wide = leaf(G5, 1, (), ())
        self.assertEqual(raised_by(extract, G5, wide, ((), 3, (1,)), ((), 3, (2,))), SameChallenge)
        self.assertEqual(extract(G5, wide, ((), 3, (1,)), ((), 4, (2,))), (1,))
        none = either(G5, (wide, leaf(G5, 1, ((9,),), (9,))))
        start = ((), (4,))
        first = (start, 3, accepted_answers(G5, none, start, 3)[0])
        second = (start, 3, accepted_answers(G5, none, start, 3)[-1])
        self.assertNotEqual(first, second)
        self.assertEqual(raised_by(extract, G5, none, first, second), SameChallenge)
