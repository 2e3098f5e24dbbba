import itertools
import random
import unittest

from hushpapers.claims import choice_claim, choice_witness
from hushpapers.covers import Key
from hushpapers.errors import (
    BadChallenge, BadStatement, BadTape, Closed, DoubleName, Full, NoWitness, Refused, WrongCoin,
)
from hushpapers.mixing import mix_claim, mix_rows, mix_witness, mixed_openings
from hushpapers.runs import accepts, mimic, run_of
from hushpapers.vote import Vote, make_ballot, make_mix
from tests.ledger_samples import G127, KEY, KEY_3, OPEN, random_row
from tests.plain_runs import with_part
from tests.samples import raised_by
from tests.vote_samples import (
    ALL_KEYS, G61, G67, NAMES, count_switches, random_ballot, random_mix, state_of,
)

OPENINGS = ((1, 3), (0, 2), (1, 0))


def ballot_of(numbers, key, options, opening):
    _, option, blind, tape, challenge = (None, *opening, *random_ballot(numbers, key, options, "x")[3:])
    return make_ballot(key, options, option, blind, tape, challenge)


def cast_vote(numbers, key=KEY, options=2, openings=OPENINGS):
    vote = Vote(key, options)
    for name, opening in zip(NAMES, openings):
        cover, run = ballot_of(numbers, key, options, opening)
        vote.cast(name, cover, run, coin=run[1])
    return vote


def mixed_vote(numbers, mixes=1):
    """Return a vote in the stage of mixing, and the openings of its covers."""
    vote = cast_vote(numbers)
    openings = OPENINGS
    for _ in range(mixes):
        settings, blinds, tape, challenge = random_mix(numbers, KEY, 3)
        row = tuple(KEY.cover(*opening) for opening in openings)
        rows, run = make_mix(KEY, row, settings, blinds, tape, challenge)
        vote.mix(rows, run, coin=challenge)
        openings = mixed_openings(5, openings, settings, blinds)
    return vote, openings


def told_vote(numbers):
    vote, openings = mixed_vote(numbers)
    vote.tell(openings)
    return vote


class Making(unittest.TestCase):
    def test_options(self):
        for key, most in (
            (KEY, 4), (OPEN, 4), (KEY_3, 2), (Key(G61, G61.members[1], G61.members[2]), 60),
            (Key(G67, G67.members[1], G67.members[2]), 64), (Key(G127, G127.members[3], 1), 64),
        ):
            for options in (1, 2, most - 1, most):
                if options > 0:
                    vote = Vote(key, options)
                    self.assertEqual(state_of(vote), ("casting", None, ((), (), ()), key, options))
            for options in (0, -1, most + 1, most + 2, key.group.order, 10 ** 59, -10 ** 59):
                self.assertEqual(raised_by(Vote, key, options), BadStatement)


class Casting(unittest.TestCase):
    def test_board(self):
        numbers = random.Random(1)
        for key, options in ALL_KEYS:
            vote = Vote(key, options)
            board = []
            for name in NAMES[:8]:
                opening = (numbers.randrange(options), numbers.randrange(key.group.order))
                cover, run = ballot_of(numbers, key, options, opening)
                self.assertIsNone(vote.cast(name, cover, run, coin=run[1]))
                board.append((name, cover, run))
                self.assertEqual(state_of(vote), ("casting", None, (tuple(board), (), ()), key, options))

    def test_mimicked_runs_are_taken(self):
        claim = choice_claim(KEY, 9, (0, 1, 2))
        run = mimic(KEY.group, claim, 4, (1, 2, 3, 4, 0))
        vote = Vote(KEY, 3)
        vote.cast("a", 9, run, coin=4)
        self.assertEqual(vote.board, ((("a", 9, run),), (), ()))

    def test_each_pair_of_errors_in_its_order(self):
        numbers = random.Random(2)
        cover, run = ballot_of(numbers, KEY, 2, (1, 4))
        other = KEY.group.multiply(cover, 3)
        refused = [(wrong, run) for wrong in (0, 2, 11, -1, 10 ** 59, other)]
        for changed in (
            with_part(run, (0,), ()), with_part(run, (2,), ()), with_part(run, (1,), 5), with_part(run, (1,), -1),
            with_part(run, (0, 0, 0), 2), with_part(run, (2, 1, 0, 0), (run[2][1][0][0] + 1) % 5), ((), 3, ()),
        ):
            refused.append((cover, changed))
        votes = {
            "casting": cast_vote(numbers), "mixing": mixed_vote(numbers)[0], "told": told_vote(numbers),
            "full": cast_vote(numbers, openings=OPENINGS * 2 + OPENINGS[:2]),
        }
        for (stage, vote), name, right, (one, one_run) in itertools.product(
            votes.items(), ("a", "new"), (True, False), ((cover, run), *refused)
        ):
            expected = Refused if (one, one_run) != (cover, run) else None
            if not right:
                expected = WrongCoin
            if name == "a":
                expected = DoubleName
            if stage == "full":
                expected = Full
            if stage in ("mixing", "told"):
                expected = Closed
            if expected is not None:
                before = state_of(vote)
                coin = one_run[1] if right else (one_run[1] + 1) % 5
                self.assertEqual(raised_by(vote.cast, name, one, one_run, coin=coin), expected)
                self.assertEqual(state_of(vote), before)
        self.assertIsNone(votes["casting"].cast("new", cover, run, coin=run[1]))

    def test_eight_ballots_and_nine(self):
        numbers = random.Random(3)
        vote = cast_vote(numbers, openings=OPENINGS * 2 + OPENINGS[:1])
        cover, run = ballot_of(numbers, KEY, 2, (0, 0))
        self.assertIsNone(raised_by(vote.cast, "y", cover, run, coin=run[1]))
        self.assertEqual(raised_by(vote.cast, "z", cover, run, coin=run[1]), Full)
        self.assertEqual(len(vote.board[0]), 8)

    def test_other_options(self):
        # The run is one of the choice between exactly the options of the vote.
        numbers = random.Random(4)
        for options in range(1, 5):
            cover, run = ballot_of(numbers, KEY, options, (0, 2))
            for others in range(1, 5):
                expected = None if others == options else Refused
                self.assertEqual(raised_by(Vote(KEY, others).cast, "a", cover, run, coin=run[1]), expected)


class Mixing(unittest.TestCase):
    def test_board(self):
        numbers = random.Random(5)
        for key, options in ALL_KEYS:
            for many in (0, 1, 2, 3, 5):
                openings = tuple((numbers.randrange(options), numbers.randrange(key.group.order)) for _ in range(many))
                vote = cast_vote(numbers, key, options, openings)
                ballots = vote.board[0]
                row = tuple(key.cover(*opening) for opening in openings)
                board = []
                for _ in range(3):
                    settings, blinds, tape, challenge = random_mix(numbers, key, many)
                    rows, run = make_mix(key, row, settings, blinds, tape, challenge)
                    self.assertIsNone(vote.mix(rows, run, coin=challenge))
                    board.append((rows, run))
                    self.assertEqual(
                        state_of(vote), ("mixing", None, (ballots, tuple(board), ()), key, options)
                    )
                    row = rows[-1]

    def test_each_pair_of_errors_in_its_order(self):
        numbers = random.Random(6)
        for mixes in (0, 1, 2):
            vote, openings = mixed_vote(numbers, mixes) if mixes else (cast_vote(numbers), OPENINGS)
            row = tuple(KEY.cover(*opening) for opening in openings)
            settings, blinds, tape, challenge = random_mix(numbers, KEY, 3)
            rows, run = make_mix(KEY, row, settings, blinds, tape, challenge)
            told = told_vote(numbers)
            refused = [(wrong, run) for wrong in (
                (), ((),), rows[:3], rows[1:], (*rows, rows[3]), with_part(rows, (1, 2), 2), with_part(rows, (2,), ()),
                with_part(rows, (1, 2), KEY.group.multiply(rows[1][2], 3)), with_part(rows, (0, 0), 0),
                with_part(rows, (3, 0), KEY.group.multiply(rows[3][0], 3)), 0, (1, 2, 3, 4),
            )]
            for changed in (
                with_part(run, (0,), ()), with_part(run, (2,), ()), with_part(run, (1,), 5), ((), 3, ()),
                with_part(run, (2, 0, 1), (run[2][0][1] + 1) % 5),
            ):
                refused.append((rows, changed))
            # Another first row, with an honest run of its own.
            for first in ((KEY.group.multiply(row[0], 3), *row[1:]), row[::-1]):
                if first != row:
                    refused.append(make_mix(KEY, first, settings, blinds, tape, challenge))
            for size in (0, 1, 2, 4):
                refused.append(make_mix(KEY, (3,) * size, *random_mix(numbers, KEY, size)))
            nine = mix_rows(KEY, (3,) * 9, *random_mix(numbers, KEY, 9)[:2])
            refused.append((nine, run))
            for one_vote, right, (one, one_run) in itertools.product(
                (vote, told), (True, False), ((rows, run), *refused)
            ):
                expected = Refused if (one, one_run) != (rows, run) else None
                if not right:
                    expected = WrongCoin
                if one_vote is told:
                    expected = Closed
                if expected is not None:
                    before = state_of(one_vote)
                    coin = one_run[1] if right else (one_run[1] + 1) % 5
                    self.assertEqual(raised_by(one_vote.mix, one, one_run, coin=coin), expected)
                    self.assertEqual(state_of(one_vote), before)
            self.assertIsNone(vote.mix(rows, run, coin=challenge))

    def test_the_order_of_now(self):
        # A second mix begins with the last row, no longer with the ballots.
        numbers = random.Random(7)
        vote = cast_vote(numbers)
        row = tuple(KEY.cover(*opening) for opening in OPENINGS)
        for _ in range(2):
            rows, run = make_mix(KEY, row, (1, 1, 1), ((1, 2), (3, 4), (1, 1)), (0,) * 15, 2)
            self.assertIsNone(raised_by(vote.mix, rows, run, coin=2))
            self.assertEqual(raised_by(vote.mix, rows, run, coin=2), Refused)
            row = rows[-1]


class Telling(unittest.TestCase):
    def test_tally(self):
        numbers = random.Random(8)
        for key, options in ALL_KEYS:
            for many, mixes in itertools.product((0, 1, 2, 4, 8), (0, 1, 3)):
                q = key.group.order
                openings = tuple((numbers.randrange(options), numbers.randrange(q)) for _ in range(many))
                vote = cast_vote(numbers, key, options, openings)
                for _ in range(mixes):
                    settings, blinds, tape, challenge = random_mix(numbers, key, many)
                    row = tuple(key.cover(*opening) for opening in openings)
                    rows, run = make_mix(key, row, settings, blinds, tape, challenge)
                    vote.mix(rows, run, coin=challenge)
                    openings = mixed_openings(q, openings, settings, blinds)
                ballots, mixed, _ = vote.board
                self.assertIsNone(vote.tally)
                self.assertIsNone(vote.tell(openings))
                tally = tuple(sum(opening[0] == option for opening in openings) for option in range(options))
                self.assertEqual(
                    state_of(vote), ("told", tally, (ballots, mixed, openings), key, options)
                )

    def test_errors(self):
        numbers = random.Random(9)
        for mixes in (0, 1, 2):
            vote, openings = mixed_vote(numbers, mixes) if mixes else (cast_vote(numbers), OPENINGS)
            before = state_of(vote)
            wrong = [(), openings[:2], (*openings, openings[0]), (*openings[:2], ()), (*openings[:2], (1, 2, 3))]
            if openings != OPENINGS:
                wrong.append(OPENINGS)
            for at, (value, blind) in enumerate(openings):
                cover = KEY.cover(value, blind)
                for pair in ((value, (blind + 1) % 5), (1 - value, blind), (value, blind + 5), (value, blind - 5),
                             (value + 5, blind), (value - 5, blind), (value, 10 ** 59)):
                    wrong.append((*openings[:at], pair, *openings[at + 1:]))
                for option in (2, 3, 4):
                    # These open the cover, but to no option.
                    pair = (option, KEY.blind_for(cover, option))
                    wrong.append((*openings[:at], pair, *openings[at + 1:]))
            for one in wrong:
                self.assertEqual(raised_by(vote.tell, one), Refused)
                self.assertEqual(state_of(vote), before)
            told = told_vote(numbers)
            after = state_of(told)
            for one in (*wrong, openings, after[2][2]):
                self.assertEqual(raised_by(told.tell, one), Closed)
                self.assertEqual(state_of(told), after)
            self.assertIsNone(vote.tell(openings))

    def test_other_openings_of_the_covers(self):
        # The judge takes what opens the covers, also if the writer did not vote so.
        vote = cast_vote(random.Random(10))
        others = tuple((1 - v, KEY.blind_for(KEY.cover(v, b), 1 - v)) for v, b in OPENINGS)
        vote.tell(others)
        self.assertEqual(vote.tally, (2, 1))
        self.assertEqual(vote.board[2], others)


class Ballots(unittest.TestCase):
    def test_as_the_document_says(self):
        numbers = random.Random(11)
        for key, options in (*ALL_KEYS, (Key(G127, G127.members[3], G127.members[9]), 64)):
            q, values = key.group.order, tuple(range(options))
            for option in {0, options // 2, options - 1}:
                _, _, blind, tape, challenge = random_ballot(numbers, key, options, "x")
                cover, run = make_ballot(key, options, option, blind, tape, challenge)
                self.assertEqual(cover, key.cover(option, blind))
                claim = choice_claim(key, cover, values)
                witness = choice_witness(key, (option, blind), values)
                self.assertEqual(run, run_of(key.group, claim, witness, tape, challenge))
                self.assertTrue(accepts(key.group, claim, run))
                self.assertLess(blind, q)

    def test_errors_in_their_order(self):
        tape = (0, 1, 2)
        tapes = ((), (0, 1), (0, 1, 2, 3), (5, 1, 2), (0, 1, -1))
        for option, blind, one, challenge in itertools.product(
            (0, 1, 2, 5, 6, -1, 10 ** 59), (0, 4, 5, -1, 10 ** 59), (tape, *tapes), (0, 4, 5, -1)
        ):
            expected = None if 0 <= challenge < 5 else BadChallenge
            if one != tape or not 0 <= blind < 5:
                expected = BadTape
            if option not in (0, 1):
                expected = NoWitness
            self.assertEqual(raised_by(make_ballot, KEY, 2, option, blind, one, challenge), expected)


class Mixes(unittest.TestCase):
    def test_as_the_document_says(self):
        numbers = random.Random(12)
        for key, _ in ALL_KEYS:
            for many in (0, 1, 2, 3, 8):
                row = tuple(numbers.choice(key.group.members) for _ in range(many))
                settings, blinds, tape, challenge = random_mix(numbers, key, many)
                rows, run = make_mix(key, row, settings, blinds, tape, challenge)
                self.assertEqual(rows, mix_rows(key, row, settings, blinds))
                claim, witness = mix_claim(key, rows), mix_witness(settings, blinds)
                self.assertEqual(run, run_of(key.group, claim, witness, tape, challenge))

    def test_errors_in_their_order(self):
        numbers = random.Random(13)
        settings, blinds, tape, _ = random_mix(numbers, KEY, 3)
        for one, pairs, one_tape, challenge in itertools.product(
            (settings, settings[1:], (2, 0, 0)), (blinds, blinds[1:], with_part(blinds, (0, 1), 5)),
            (tape, tape[1:], (5, *tape[1:])), (0, 4, 5, -1),
        ):
            right = (one, pairs, one_tape) == (settings, blinds, tape)
            expected = None if 0 <= challenge < 5 else BadChallenge
            expected = expected if right else BadTape
            self.assertEqual(raised_by(make_mix, KEY, (3, 4, 5), one, pairs, one_tape, challenge), expected)
        # Nine covers: the errors of mix_rows, then that of mix_claim, then those of the run.
        settings, blinds = random_row(numbers, 2, 36), ((0, 0),) * 36
        self.assertEqual(count_switches(9), 36)
        self.assertEqual(raised_by(make_mix, KEY, (3,) * 9, settings, blinds, (), 5), BadStatement)
        self.assertEqual(raised_by(make_mix, KEY, (3,) * 9, settings[1:], blinds, (), 5), BadTape)
