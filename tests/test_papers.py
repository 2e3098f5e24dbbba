import random
import unittest

from hushpapers.claims import choice_claim, choice_witness
from hushpapers.counting import kept_runs
from hushpapers.covers import Key
from hushpapers.errors import (
    BadTape, BadWitness, DifferentStarts, NotAccepted, SameChallenge,
)
from hushpapers.groups import PowerGroup
from hushpapers.notation import digest, read_nested, write_nested
from hushpapers.papers import (
    challenge_for, count_papers, draw_from_papers, forge_paper, judge_paper, write_paper,
)
from hushpapers.runs import accepts, extract
from hushpapers.statements import either, fits, holds, leaf, tape_length
from tests.plain_runs import (
    accepted_answers, all_starts, places_in, random_tape, random_witness, small_statements, with_part,
)
from tests.plain_statements import all_witnesses
from tests.run_samples import EXAMPLE, G3, G5, G127, deep, edge_statements
from tests.samples import raised_by, rows_of, small_groups

NOTES = ("", "a note", "~ !", " ")
WITNESS = (None, (3,))


def plain_form(statement):
    if statement[0] == "rows":
        return (0, *statement[1:])
    return (1, statement[1], tuple(plain_form(kid) for kid in statement[2]))


def plain_challenge(q, statement, start, note):
    return digest(write_nested((plain_form(statement), start)) + " " + note, q)


def all_papers(group, statement, note):
    """Return the pairs (start, answer) that are accepted, found by trying."""
    found = []
    for start in all_starts(group, statement):
        challenge = plain_challenge(group.order, statement, start, note)
        found += [(start, answer) for answer in accepted_answers(group, statement, start, challenge)]
    return found


class Challenges(unittest.TestCase):
    def test_example(self):
        text = "((1 1 ((0 1 ((9)) (9)) (0 1 ((9)) (3)))) ((4) (9))) my note"
        self.assertEqual(challenge_for(5, EXAMPLE, ((4,), (9,)), "my note"), digest(text, 5))

    def test_as_the_document_says(self):
        numbers = random.Random(1)
        for group, statement in small_statements(2, 60):
            start = numbers.choice(all_starts(group, statement))
            for note in NOTES:
                expected = plain_challenge(group.order, statement, start, note)
                self.assertEqual(challenge_for(group.order, statement, start, note), expected)


class Writing(unittest.TestCase):
    def test_honest_papers(self):
        numbers = random.Random(2)
        for group, statement in small_statements(3, 150, 10 ** 4):
            witness = random_witness(numbers, group, statement)
            if witness is None:
                continue
            for note in NOTES:
                tape = random_tape(numbers, group, statement)
                text = write_paper(group, statement, witness, tape, note)
                self.assertIs(judge_paper(group, statement, note, text), True)

    def test_errors(self):
        for tape in ((), (2, 4), (2, 4, 1, 0), (2, 4, 5), (-1, 4, 1)):
            for witness in (None, (None, (2,)), (None, None), ((3,), None), ()):
                self.assertEqual(raised_by(write_paper, G5, EXAMPLE, witness, tape, ""), BadWitness)
            self.assertEqual(raised_by(write_paper, G5, EXAMPLE, WITNESS, tape, ""), BadTape)
        self.assertEqual(raised_by(write_paper, G5, EXAMPLE, ((3,), None), (2, 4, 1), ""), BadWitness)

    def test_every_accepted_paper_of_small_statements(self):
        true = false = 0
        for group, statement in small_statements(4, 60, 130, 130):
            for note in ("", "x"):
                papers = all_papers(group, statement, note)
                self.assertEqual(count_papers(group, statement, note), len(papers))
                for value in papers:
                    self.assertIs(judge_paper(group, statement, note, write_nested(value)), True)
                length = tape_length(statement)
                if not holds(group, statement):
                    false += 1
                    continue
                true += 1
                self.assertEqual(len(papers), group.order ** length)
                texts = sorted(write_nested(value) for value in papers)
                for witness in all_witnesses(group, statement)[:3]:
                    written = [
                        write_paper(group, statement, witness, tape, note) for tape in rows_of(group.order, length)
                    ]
                    self.assertEqual(sorted(written), texts)
        self.assertGreater(true, 20)
        self.assertGreater(false, 8)

    def test_count_at_the_edges(self):
        for group in small_groups()[:4]:
            for statement in edge_statements(group):
                if tape_length(statement) < 4:
                    many = count_papers(group, statement, "n")
                    if holds(group, statement):
                        self.assertEqual(many, group.order ** tape_length(statement))
                    else:
                        self.assertEqual(many, len(all_papers(group, statement, "n")))


class Judging(unittest.TestCase):
    def test_every_changed_pair(self):
        numbers = random.Random(5)
        for group, statement in small_statements(6, 40, 10 ** 4):
            witness = random_witness(numbers, group, statement)
            if witness is None:
                continue
            text = write_paper(group, statement, witness, random_tape(numbers, group, statement), "n")
            value = read_nested(text)
            self.assertEqual(write_nested(value), text)
            for path in places_in(value):
                for part in (0, 1, group.order, 999999999, (), (0,), (1, 1), ((), ()), deep(5)):
                    changed = with_part(value, path, part)
                    expected = self.is_accepted(group, statement, "n", changed)
                    self.assertIs(judge_paper(group, statement, "n", write_nested(changed)), expected)

    def is_accepted(self, group, statement, note, value):
        if not isinstance(value, tuple) or len(value) != 2:
            return False
        challenge = plain_challenge(group.order, statement, value[0], note)
        return accepts(group, statement, (value[0], challenge, value[1]))

    def test_other_texts(self):
        text = write_paper(G5, EXAMPLE, WITNESS, (2, 4, 1), "n")
        self.assertIs(judge_paper(G5, EXAMPLE, "n", text), True)
        value = read_nested(text)
        wrong = [
            "", "0", "7", "()", "(())", "((4) (9))", " " + text, text + " ", text + ")", "(" + text, text[:-1],
            text[1:], text.replace(" ", "  "), text.replace(" ", ",", 1), text + "\n", text.replace("(", "[", 1),
            "(" + text + ")", text[:-1] + " ())", text[:-1] + " 0)", text.replace("4", "04"), str(value), "x",
            "(" * 21 + ")" * 21,
        ]
        for at in range(len(text)):
            wrong.append(text[:at])
            wrong.append(text[:at] + " " + text[at:])
            wrong.append(text[:at] + "0" + text[at:])
        for one in wrong:
            self.assertIs(judge_paper(G5, EXAMPLE, "n", one), False, one)

    def test_numbers_that_are_no_residues(self):
        start, (shares, answers) = read_nested(write_paper(G5, EXAMPLE, WITNESS, (2, 4, 1), "n"))
        for number in (5, 6, 10, 999999999):
            for path in ((0, 0), (0, 1), (1, 0, 0), (1, 1, 0)):
                changed = (start, with_part((shares, answers), path, number))
                self.assertIs(judge_paper(G5, EXAMPLE, "n", write_nested(changed)), False)

    def test_other_notes_and_statements(self):
        # A leaf without rows is answered for each challenge; another leaf for one challenge only.
        empty = leaf(G5, 1, (), ())
        for note in NOTES:
            self.assertIs(judge_paper(G5, empty, note, "(() (3))"), True)
        true = leaf(G127, 1, ((G127.members[1],),), (G127.members[2],))
        witness = next(x for x in all_witnesses(G127, true))
        text = write_paper(G127, true, witness, (5,), "n")
        start = read_nested(text)[0]
        seen = set()
        for number in range(60):
            note = f"note {number}"
            same = challenge_for(127, true, start, note) == challenge_for(127, true, start, "n")
            self.assertIs(judge_paper(G127, true, note, text), same)
            seen.add(same)
        self.assertIn(False, seen)
        other = leaf(G127, 1, ((G127.members[1],),), (G127.members[3],))
        self.assertIs(judge_paper(G127, other, "n", text), False)


class Forging(unittest.TestCase):
    def test_first_kept_run(self):
        made = none = 0
        for group, statement in small_statements(7, 120, 130, 400):
            for note in ("", "some note"):
                judge = {
                    start: plain_challenge(group.order, statement, start, note)
                    for start in all_starts(group, statement)
                }
                kept = kept_runs(group, statement, judge)
                self.assertEqual(count_papers(group, statement, note), len(kept))
                text = forge_paper(group, statement, note)
                if kept:
                    self.assertEqual(text, write_nested((kept[0][0], kept[0][2])))
                    self.assertIs(judge_paper(group, statement, note, text), True)
                    made += 1
                else:
                    self.assertIsNone(text)
                    self.assertFalse(holds(group, statement))
                    none += 1
        self.assertGreater(made, 30)
        self.assertGreater(none, 5)

    def test_a_large_statement_that_holds(self):
        # The first paper comes long before all tapes are tried.
        key = Key(G127, G127.members[3], G127.members[5])
        claim = choice_claim(key, key.cover(2, 100), (0, 1, 2))
        text = forge_paper(G127, claim, "n")
        self.assertIs(judge_paper(G127, claim, "n", text), True)
        witness = choice_witness(key, (2, 100), (0, 1, 2))
        text = write_paper(G127, claim, witness, (7, 8, 9, 10, 11), "n")
        self.assertIs(judge_paper(G127, claim, "n", text), True)


class Drawing(unittest.TestCase):
    def test_witness(self):
        numbers = random.Random(8)
        drawn = 0
        for group, statement in small_statements(9, 60, 10 ** 4):
            witness = random_witness(numbers, group, statement)
            if witness is None:
                continue
            tape = random_tape(numbers, group, statement)
            texts = {note: write_paper(group, statement, witness, tape, note) for note in ("a", "b", "c", "d")}
            for note, text in texts.items():
                call = (draw_from_papers, group, statement, "a", texts["a"], note, text)
                runs = []
                for one, paper in (("a", texts["a"]), (note, text)):
                    start, answer = read_nested(paper)
                    runs.append((start, plain_challenge(group.order, statement, start, one), answer))
                if runs[0][1] == runs[1][1]:
                    self.assertEqual(raised_by(*call), SameChallenge)
                else:
                    drawn += 1
                    found = draw_from_papers(*call[1:])
                    self.assertEqual(found, extract(group, statement, *runs))
                    self.assertTrue(fits(group, statement, found))
        self.assertGreater(drawn, 40)

    def test_errors_in_their_order(self):
        tape, other = (2, 4, 1), (0, 4, 1)
        first = write_paper(G5, EXAMPLE, WITNESS, tape, "a")
        notes = [
            note for note in "bcdefghijklm"
            if challenge_for(5, EXAMPLE, ((4,), (9,)), note) != challenge_for(5, EXAMPLE, ((4,), (9,)), "a")
        ]
        second = write_paper(G5, EXAMPLE, WITNESS, tape, notes[0])
        self.assertEqual(draw_from_papers(G5, EXAMPLE, "a", first, notes[0], second), WITNESS)
        self.assertEqual(draw_from_papers(G5, EXAMPLE, notes[0], second, "a", first), WITNESS)
        for wrong in ("", "7", "(1 2 3)", "(", first + " ", write_nested((((4,), (9,)), ()))):
            for good, note in ((first, "a"), (second, notes[0])):
                call = (draw_from_papers, G5, EXAMPLE, note)
                self.assertEqual(raised_by(*call, wrong, note, good), NotAccepted)
                self.assertEqual(raised_by(*call, good, note, wrong), NotAccepted)
        self.assertEqual(raised_by(draw_from_papers, G5, EXAMPLE, notes[0], first, "a", first), NotAccepted)
        self.assertEqual(raised_by(draw_from_papers, G5, EXAMPLE, "a", first, notes[0], first), NotAccepted)
        self.assertEqual(raised_by(draw_from_papers, G5, EXAMPLE, "a", first, "a", first), SameChallenge)
        for note in ("a", *notes):
            third = write_paper(G5, EXAMPLE, WITNESS, other, note)
            call = (draw_from_papers, G5, EXAMPLE, "a", first, note, third)
            self.assertEqual(raised_by(*call), DifferentStarts)


class Tables(unittest.TestCase):
    def test_a_table_with_another_unit(self):
        for group in small_groups():
            b = group.generator
            statement = either(group, (leaf(group, 1, ((b,),), (b,)), leaf(group, 1, ((group.unit,),), (b,))))
            text = write_paper(group, statement, ((1,), None), (1, 2, 0), "n")
            self.assertIs(judge_paper(group, statement, "n", text), True)
            self.assertEqual(count_papers(group, statement, "n"), group.order ** 3)
        false = leaf(G3, 1, ((1,),), (2,))
        self.assertEqual(count_papers(G3, false, "n"), len(all_papers(G3, false, "n")))
