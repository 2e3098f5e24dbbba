import random
import unittest

from hushpapers.errors import BadChallenge, BadTape, BadWitness
from hushpapers.runs import accepts, begin, mimic, respond, run_of
from hushpapers.statements import at_least, either, every, holds, leaf, tape_length
from tests.plain_runs import (
    accepted_answers, all_starts, part_at, places_in, plain_accepts, plain_honest, plain_mimic,
    random_tape, random_witness, small_statements, with_part,
)
from tests.plain_statements import all_witnesses, rebuilt
from tests.run_samples import EXAMPLE, G3, G5, G7, G127, RUN, T5, WRONG, deep, edge_statements
from tests.samples import raised_by, rows_of, small_groups, table_group


class Examples(unittest.TestCase):
    def test_example(self):
        witness = (None, (3,))
        self.assertEqual(begin(G5, EXAMPLE, witness, (2, 4, 1)), ((4,), (9,)))
        self.assertEqual(respond(G5, EXAMPLE, witness, (2, 4, 1), 3), ((2, 1), ((4,), (4,))))
        self.assertEqual(run_of(G5, EXAMPLE, witness, (2, 4, 1), 3), RUN)
        self.assertIs(accepts(G5, EXAMPLE, RUN), True)

    def test_translated_to_another_group(self):
        def carried(value):
            return T5.power(T5.generator, G5.log(3, value))

        other = either(T5, tuple(
            leaf(T5, 1, ((carried(9),),), (carried(target),)) for target in (9, 3)
        ))
        run = run_of(T5, other, (None, (3,)), (2, 4, 1), 3)
        self.assertEqual(run, (((carried(4),), (carried(9),)), 3, ((2, 1), ((4,), (4,)))))
        self.assertEqual(mimic(T5, other, 2, (1, 0, 4))[2], mimic(G5, EXAMPLE, 2, (1, 0, 4))[2])
        self.assertIs(accepts(T5, other, run), True)
        self.assertIs(accepts(T5, other, RUN), False)


class Writing(unittest.TestCase):
    def test_mimic_and_honest_as_the_document_says(self):
        numbers = random.Random(1)
        for group, statement in small_statements(2, 300, 10 ** 5):
            tape = random_tape(numbers, group, statement)
            challenge = numbers.randrange(group.order)
            start, answer = plain_mimic(group, statement, challenge, tape)
            self.assertEqual(mimic(group, statement, challenge, tape), (start, challenge, answer))
            witness = random_witness(numbers, group, statement)
            if witness is not None:
                start, answer = plain_honest(group, statement, witness, tape, challenge)
                self.assertEqual(begin(group, statement, witness, tape), start)
                self.assertEqual(respond(group, statement, witness, tape, challenge), answer)
                run = run_of(group, statement, witness, tape, challenge)
                self.assertEqual(run, (start, challenge, answer))

    def test_edges_as_the_document_says(self):
        numbers = random.Random(3)
        for group in small_groups():
            for statement in edge_statements(group):
                self.assertEqual(tape_length(statement), len(random_tape(numbers, group, statement)))
                for challenge in range(group.order):
                    tape = random_tape(numbers, group, statement)
                    start, answer = plain_mimic(group, statement, challenge, tape)
                    self.assertEqual(mimic(group, statement, challenge, tape), (start, challenge, answer))
                    witness = random_witness(numbers, group, statement)
                    if witness is not None:
                        start, answer = plain_honest(group, statement, witness, tape, challenge)
                        run = run_of(group, statement, witness, tape, challenge)
                        self.assertEqual(run, (start, challenge, answer))

    def test_kids_up_to_q_minus_1(self):
        b = G7.generator
        kids = tuple(leaf(G7, 1, ((b,),), (G7.power(b, e),)) for e in range(6))
        for need in range(2, 7):
            statement = at_least(G7, need, kids)
            witness = tuple((e,) if e in (5, 1, 3, 0, 4, 2)[:need] else None for e in range(6))
            tape = tuple(range(1, 7 - need)) + (3, 1, 4, 1, 5, 2)
            for challenge in (0, 5):
                run = run_of(G7, statement, witness, tape, challenge)
                self.assertEqual(run[2][0], plain_honest(G7, statement, witness, tape, challenge)[1][0])
                self.assertIs(accepts(G7, statement, run), True)
                run = mimic(G7, statement, challenge, tape)
                self.assertEqual(run[2][0][:6 - need], tuple(range(1, 7 - need)))
                self.assertIs(accepts(G7, statement, run), True)

    def test_more_kids_than_q(self):
        statement = every(G3, (leaf(G3, 1, ((2,),), (4,)),) * 64)
        run = run_of(G3, statement, ((2,),) * 64, (0, 1, 2, 2) * 16, 2)
        self.assertEqual(run[2][0], (2,) * 64)
        self.assertIs(accepts(G3, statement, run), True)
        self.assertIs(accepts(G3, statement, mimic(G3, statement, 1, (1,) * 64)), True)
        other = with_part(run, (2, 0, 63), 1)
        self.assertIs(accepts(G3, statement, other), False)

    def test_large_order(self):
        numbers = random.Random(4)
        b = G127.generator
        first = leaf(G127, 3, ((b, 1, G127.power(b, 5)), (1, b, b)), (G127.power(b, 9), G127.power(b, 100)))
        false = leaf(G127, 1, ((1,),), (b,))
        statement = at_least(G127, 2, (false, first, either(G127, (false, first)), false))
        for _ in range(20):
            witness = (None, (4, 99, 1), (None, (9, 100, 0)), None)
            tape = random_tape(numbers, G127, statement)
            for challenge in (0, 1, 126, numbers.randrange(127)):
                self.assertIs(accepts(G127, statement, run_of(G127, statement, witness, tape, challenge)), True)
                self.assertIs(accepts(G127, statement, mimic(G127, statement, challenge, tape)), True)
        self.assertEqual(raised_by(run_of, G127, statement, witness, tape, 127), BadChallenge)

    def test_largest_statements(self):
        b = G127.generator
        one = leaf(G127, 5, ((b,) * 5,) * 6, (b,) * 6)
        inner = at_least(G127, 30, (one,) * 37)
        statement = every(G127, (inner,) * 2)
        length = tape_length(statement)
        self.assertEqual(length, 2 * (7 + 37 * 5))
        tape = tuple(i * i % 127 for i in range(length))
        witness = (((1, 0, 0, 0, 0),) * 37,) * 2
        for run in (mimic(G127, statement, 77, tape), run_of(G127, statement, witness, tape, 77)):
            self.assertIs(accepts(G127, statement, run), True)
            self.assertIs(accepts(G127, statement, with_part(run, (1,), 78)), False)

    def test_witnesses_with_more_items_than_needed(self):
        zero = leaf(G5, 1, ((9,),), (1,))
        statement = either(G5, (zero, leaf(G5, 1, ((9,),), (9,)), leaf(G5, 0, (), ())))
        witness = ((0,), (1,), ())
        tape = (2, 4, 1, 3)
        self.assertEqual(
            run_of(G5, statement, witness, tape, 2), run_of(G5, statement, ((0,), None, None), tape, 2)
        )
        # The second and the third kid are passive: their shares are the tape's own numbers.
        self.assertEqual(respond(G5, statement, witness, tape, 2)[0][1:], (2, 4))

    def test_start_does_not_depend_on_the_challenge(self):
        numbers = random.Random(5)
        for group, statement in small_statements(6, 60):
            witness = random_witness(numbers, group, statement)
            if witness is not None:
                tape = random_tape(numbers, group, statement)
                starts = {run_of(group, statement, witness, tape, c)[0] for c in range(group.order)}
                self.assertEqual(starts, {begin(group, statement, witness, tape)})


class Accepting(unittest.TestCase):
    def test_honest_and_mimicked_runs(self):
        numbers = random.Random(7)
        for group, statement in small_statements(8, 400, 10 ** 6):
            tape = random_tape(numbers, group, statement)
            for challenge in range(group.order):
                self.assertIs(accepts(group, statement, mimic(group, statement, challenge, tape)), True)
                witness = random_witness(numbers, group, statement)
                if witness is not None:
                    run = run_of(group, statement, witness, tape, challenge)
                    self.assertIs(accepts(group, statement, run), True)
                    self.assertIs(accepts(group, rebuilt(statement), rebuilt(run)), True)

    def test_all_answers(self):
        numbers = random.Random(9)
        for group, statement in small_statements(10, 150):
            if count_forms(group, statement) > 2000:
                continue
            starts = [begin_of(numbers, group, statement), begin_of(numbers, group, statement)]
            for start in starts:
                challenge = numbers.randrange(group.order)
                for answer in forms_of(group, statement):
                    expected = plain_accepts(group, statement, start, challenge, answer)
                    self.assertIs(accepts(group, statement, (start, challenge, answer)), expected)

    def test_changed_in_one_place(self):
        numbers = random.Random(11)
        for group, statement in small_statements(12, 120):
            challenge = numbers.randrange(group.order)
            run = mimic(group, statement, challenge, random_tape(numbers, group, statement))
            for path in list(places_in(run)):
                if isinstance(part_at(run, path), int):
                    for number in (group.members if path[0] == 0 else range(group.order)):
                        changed = with_part(run, path, number)
                        expected = plain_accepts(group, statement, *changed)
                        self.assertIs(accepts(group, statement, changed), expected)

    def test_other_forms(self):
        numbers = random.Random(13)
        for group, statement in small_statements(14, 150):
            run = mimic(group, statement, 1, random_tape(numbers, group, statement))
            for path in list(places_in(run)):
                if path:
                    self.check_other_forms(group, statement, run, path)

    def check_other_forms(self, group, statement, run, path):
        part = part_at(run, path)
        others = [*WRONG, group.order, -group.order]
        if isinstance(part, tuple):
            others += [(*part, *part[-1:], 1), part[:-1], (part,), list(part), (*part, ())]
            others = [other for other in others if not same_form(other, part)]
        else:
            good = group.members if path[0] == 0 else range(group.order)
            others = [other for other in others if not isinstance(other, int) or other not in good]
        for other in others:
            if other != part:
                with self.subTest(run=run, path=path, other=other):
                    self.assertIs(accepts(group, statement, with_part(run, path, other)), False)

    def test_other_forms_of_edges(self):
        for group in small_groups():
            for statement in edge_statements(group):
                run = mimic(group, statement, 2, (1,) * tape_length(statement))
                self.assertIs(accepts(group, statement, run), True)
                for path in list(places_in(run)):
                    if path:
                        self.check_other_forms(group, statement, run, path)

    def test_anything_at_all(self):
        for group in (G3, T5):
            for statement in edge_statements(group):
                for start in WRONG:
                    for challenge in (0, 1, group.order, -1, (), (0,), deep(19)):
                        for answer in WRONG:
                            self.assertIn(accepts(group, statement, (start, challenge, answer)), (True, False))

    def test_challenges(self):
        for challenge in (-2, 8, 5, 10 ** 59 + 3, (3,), (), None):
            self.assertIs(accepts(G5, EXAMPLE, with_part(RUN, (1,), challenge)), False)
        for challenge in (0, 1, 2, 4):
            self.assertIs(accepts(G5, EXAMPLE, with_part(RUN, (1,), challenge)), False)
        empty = leaf(G5, 0, (), ())
        for challenge in range(-3, 8):
            self.assertIs(accepts(G5, empty, ((), challenge, ())), 0 <= challenge < 5)

    def test_members_and_residues(self):
        # 2 is no member, 0 is neither a member nor the same as 11, and 9 is no residue.
        for path, number in (
            ((0, 0, 0), 2), ((0, 0, 0), 0), ((0, 0, 0), 15), ((0, 0, 0), -7),
            ((2, 0, 0), 7), ((2, 0, 0), -3), ((2, 1, 0, 0), 9), ((2, 1, 0, 0), -1), ((2, 1, 1, 0), 5),
        ):
            self.assertIs(accepts(G5, EXAMPLE, with_part(RUN, path, number)), False)

    def test_runs_that_are_no_triples(self):
        for run in ((), RUN[:2], (*RUN, ()), (RUN,), 3):
            self.assertIs(accepts(G5, EXAMPLE, run), False)

    def test_every_start_of_a_leaf(self):
        for group in (G3, table_group((2, 0, 1))):
            for statement in edge_statements(group)[:7]:
                for start in all_starts(group, statement):
                    for challenge in range(3):
                        good = accepted_answers(group, statement, start, challenge)
                        for answer in rows_of(3, statement[1]):
                            self.assertIs(accepts(group, statement, (start, challenge, answer)), answer in good)


def begin_of(numbers, group, statement):
    return mimic(group, statement, 0, random_tape(numbers, group, statement))[0]


def forms_of(group, statement):
    """Return everything that has the form of an answer."""
    if statement[0] == "rows":
        return rows_of(group.order, statement[1])
    found = [()]
    for kid in statement[2]:
        found = [(*answers, answer) for answers in found for answer in forms_of(group, kid)]
    return [(shares, answers) for shares in rows_of(group.order, len(statement[2])) for answers in found]


def count_forms(group, statement):
    if statement[0] == "rows":
        return group.order ** statement[1]
    found = group.order ** len(statement[2])
    for kid in statement[2]:
        found *= count_forms(group, kid)
    return found


def same_form(first, second):
    """Tell whether two values have their tuples at the same places."""
    if isinstance(first, tuple) and isinstance(second, tuple):
        return len(first) == len(second) and all(
            same_form(one, other) for one, other in zip(first, second)
        )
    return isinstance(first, int) and isinstance(second, int)


class Errors(unittest.TestCase):
    def test_mimic(self):
        tape = (2, 4, 1)
        for challenge in (-1, 5, 10 ** 59, -10 ** 59):
            self.assertEqual(raised_by(mimic, G5, EXAMPLE, challenge, tape), BadChallenge)
            self.assertEqual(raised_by(mimic, G5, EXAMPLE, challenge, (9,)), BadChallenge)
        for wrong in ((), (2, 4), (2, 4, 1, 0), (2, 4, 5), (-1, 4, 1), (2, 10 ** 59, 1)):
            self.assertEqual(raised_by(mimic, G5, EXAMPLE, 3, wrong), BadTape)

    def test_honest(self):
        good, tape = (None, (3,)), (2, 4, 1)
        witnesses = ((None, None), (None, (2,)), ((1,), (2,)), (None,), (), 3, None, (None, (8,)), (None, 3))
        tapes = ((), (2, 4), (2, 4, 1, 0), (2, 4, 5), (-1, 4, 1), (2, 10 ** 59, 1))
        challenges = (-1, 5, 10 ** 59)
        for witness in witnesses:
            for one in (tape, *tapes):
                self.assertEqual(raised_by(begin, G5, EXAMPLE, witness, one), BadWitness)
                for challenge in (3, *challenges):
                    self.assertEqual(raised_by(respond, G5, EXAMPLE, witness, one, challenge), BadWitness)
                    self.assertEqual(raised_by(run_of, G5, EXAMPLE, witness, one, challenge), BadWitness)
        for one in tapes:
            self.assertEqual(raised_by(begin, G5, EXAMPLE, good, one), BadTape)
            for challenge in (3, *challenges):
                self.assertEqual(raised_by(respond, G5, EXAMPLE, good, one, challenge), BadTape)
                self.assertEqual(raised_by(run_of, G5, EXAMPLE, good, one, challenge), BadTape)
        for challenge in challenges:
            self.assertEqual(raised_by(respond, G5, EXAMPLE, good, tape, challenge), BadChallenge)
            self.assertEqual(raised_by(run_of, G5, EXAMPLE, good, tape, challenge), BadChallenge)

    def test_no_witness_for_what_does_not_hold(self):
        for group in small_groups():
            for statement in edge_statements(group):
                if not holds(group, statement):
                    self.assertEqual(all_witnesses(group, statement), [])
                    tape = (0,) * tape_length(statement)
                    self.assertEqual(raised_by(begin, group, statement, (), tape), BadWitness)
                    self.assertIsNone(raised_by(mimic, group, statement, 0, tape))
