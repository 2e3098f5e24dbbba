import itertools
import random
import unittest

from hushpapers.errors import (
    BadChallenge, BadStatement, BadTape, DoubleName, Full, NotAccepted, NoWitness, OpenKey,
)
from hushpapers.mixing import mix_claim, mix_rows, mixed_openings, read_mix, settings_for
from hushpapers.vote import (
    Vote, hold_vote, make_ballot, make_mix, retell_ballot, retell_vote, vote_relation,
)
from tests.key_samples import all_openings
from tests.ledger_samples import KEY, KEY_3, OPEN
from tests.plain_runs import random_witness, with_part
from tests.samples import raised_by, rows_of
from tests.vote_samples import (
    ALL_KEYS, HIDING, NAMES, random_ballot, random_ballots, random_mix, random_mixes, random_vote,
    state_of,
)


class Holding(unittest.TestCase):
    def test_as_the_document_says(self):
        numbers = random.Random(1)
        for key, options in ALL_KEYS:
            for many, mixes in itertools.product((0, 1, 3, 8), (0, 1, 3)):
                ballots = random_ballots(numbers, key, options, many)
                mixed = random_mixes(numbers, key, many, mixes)
                vote = Vote(key, options)
                openings = tuple(ballot[1:3] for ballot in ballots)
                for name, *rest, challenge in ballots:
                    cover, run = make_ballot(key, options, *rest, challenge)
                    vote.cast(name, cover, run, coin=challenge)
                for settings, blinds, tape, challenge in mixed:
                    row = tuple(key.cover(*opening) for opening in openings)
                    vote.mix(*make_mix(key, row, settings, blinds, tape, challenge), coin=challenge)
                    openings = mixed_openings(key.group.order, openings, settings, blinds)
                vote.tell(openings)
                found = hold_vote(key, options, ballots, mixed)
                self.assertEqual(state_of(found), state_of(vote))
                self.assertEqual(
                    found.tally, tuple(sum(ballot[1] == option for ballot in ballots) for option in range(options))
                )

    def test_errors_of_ballots(self):
        numbers = random.Random(2)
        good = random_ballots(numbers, KEY, 2, 9)
        wrongs = {
            NoWitness: with_part(good[1], (1,), 2), BadTape: with_part(good[1], (2,), 5),
            BadChallenge: with_part(good[1], (4,), 5), DoubleName: with_part(good[1], (0,), "a"),
        }
        order = list(wrongs)
        # Within a ballot those of make_ballot come first; the ballots come one after the other.
        for error, ballot in wrongs.items():
            self.assertEqual(raised_by(hold_vote, KEY, 2, (good[0], ballot), ()), error)
            for other, later in wrongs.items():
                ballots = (good[0], ballot, with_part(later, (0,), "a" if other is DoubleName else "x"))
                self.assertEqual(raised_by(hold_vote, KEY, 2, ballots, (((2,), (), (), 9),)), error)
        for first, second in itertools.combinations(range(4), 2):
            both = tuple(
                wrongs[order[second]][at] if wrongs[order[second]][at] != good[1][at] else part
                for at, part in enumerate(wrongs[order[first]])
            )
            self.assertEqual(raised_by(hold_vote, KEY, 2, (good[0], both), ()), order[first])
        for error, at, part in ((NoWitness, 1, 2), (BadTape, 3, ()), (BadChallenge, 4, -1), (Full, 0, "a"), (Full, 0, "z")):
            ballots = (*good[:8], with_part(good[8], (at,), part))
            self.assertEqual(raised_by(hold_vote, KEY, 2, ballots, ()), error)
        for options in (0, 5, -1):
            self.assertEqual(raised_by(hold_vote, KEY, options, (wrongs[NoWitness],), ()), BadStatement)

    def test_errors_of_mixes(self):
        numbers = random.Random(3)
        ballots = random_ballots(numbers, KEY, 2, 3)
        good = random_mix(numbers, KEY, 3)
        bad_tapes = (
            with_part(good, (0,), (0, 1)), with_part(good, (0, 0), 2), with_part(good, (1,), ()),
            with_part(good, (1, 0, 0), 5), with_part(good, (2,), ()), with_part(good, (2, 0), -1),
        )
        for bad in bad_tapes:
            for challenge in (good[3], 5):
                mixes = (good, with_part(bad, (3,), challenge), with_part(good, (3,), -1))
                self.assertEqual(raised_by(hold_vote, KEY, 2, ballots, mixes), BadTape)
            self.assertEqual(raised_by(hold_vote, KEY, 2, (*ballots, ballots[0]), (bad,)), DoubleName)
        for challenge in (5, -1):
            mixes = (good, with_part(good, (3,), challenge), bad_tapes[0])
            self.assertEqual(raised_by(hold_vote, KEY, 2, ballots, mixes), BadChallenge)
        self.assertIsNone(raised_by(hold_vote, KEY, 2, ballots, (good, good, good)))


class RetellingBallots(unittest.TestCase):
    def test_all_options(self):
        numbers = random.Random(4)
        for key, options in HIDING:
            for option in range(options):
                _, _, blind, tape, challenge = random_ballot(numbers, key, options, "x")
                cover, run = make_ballot(key, options, option, blind, tape, challenge)
                self.assertEqual(retell_ballot(key, options, cover, run, option), (blind, tape))
                for other in range(options):
                    told = retell_ballot(key, options, cover, run, other)
                    self.assertEqual(make_ballot(key, options, other, *told, challenge), (cover, run))

    def test_errors_in_their_order(self):
        cover, run = make_ballot(KEY, 2, 1, 3, (0, 1, 2), 4)
        bad = (
            with_part(run, (1,), 3), with_part(run, (1,), 5), with_part(run, (2,), ()), ((), 4, ()),
            with_part(run, (2, 1, 0, 0), (run[2][1][0][0] + 1) % 5),
        )
        for option, one in itertools.product((0, 1, 2, 5, 6, -1, 10 ** 59), (run, *bad)):
            expected = NotAccepted if one != run else None
            if option not in (0, 1):
                expected = NoWitness
            self.assertEqual(raised_by(retell_ballot, KEY, 2, cover, one, option), expected)
            self.assertEqual(raised_by(retell_ballot, OPEN, 2, cover, one, option), OpenKey)

    def test_every_ballot_equally_often(self):
        found = []
        for option in (0, 1):
            told = {}
            for blind, *tape in rows_of(3, 4):
                ballot = make_ballot(KEY_3, 2, option, blind, tuple(tape), 2)
                told[ballot] = told.get(ballot, 0) + 1
            found.append(told)
        self.assertEqual(found[0], found[1])
        self.assertEqual(set(found[0].values()), {1})


def plain_places(told, options):
    """Return the places of [58]."""
    places = []
    for value, _ in told:
        free = [at for at in range(len(options)) if at not in places and options[at] == value]
        places.append(min(free))
    return tuple(places)


class RetellingVotes(unittest.TestCase):
    def check(self, vote, options):
        key = vote.key
        ballots, mixes = retell_vote(vote, options)
        self.assertEqual(hold_vote(key, vote.options, ballots, mixes).board, vote.board)
        self.assertEqual(tuple(ballot[1] for ballot in ballots), tuple(options))
        self.assertEqual(len(mixes), len(vote.board[1]))
        for settings, *_ in mixes[:-1]:
            self.assertEqual(set(settings) - {0}, set())
        if mixes:
            self.assertEqual(mixes[-1][0], settings_for(plain_places(vote.board[2], options)))

    def test_every_choice_of_options(self):
        numbers = random.Random(5)
        told = 0
        for key, options in HIDING:
            for many, mixes in ((0, 0), (0, 1), (1, 0), (1, 2), (2, 0), (2, 1), (3, 0), (3, 1), (3, 3), (4, 2)):
                vote = random_vote(numbers, key, options, many, mixes)
                values = [opening[0] for opening in vote.board[2]]
                for choice in itertools.product(range(-1, options + 1), repeat=many):
                    right = sorted(choice) == sorted(values) if mixes else list(choice) == values
                    if right:
                        told += 1
                        self.check(vote, choice)
                    else:
                        self.assertEqual(raised_by(retell_vote, vote, choice), NoWitness)
                for wrong in ((*values, 0), (*values, values[0] if values else 1), values[1:] if values else (0,)):
                    self.assertEqual(raised_by(retell_vote, vote, tuple(wrong)), NoWitness)
        self.assertGreater(told, 100)

    def test_eight_ballots(self):
        numbers = random.Random(6)
        for mixes in (1, 3):
            vote = random_vote(numbers, KEY, 3, 8, mixes)
            values = [opening[0] for opening in vote.board[2]]
            for _ in range(4):
                numbers.shuffle(values)
                self.check(vote, tuple(values))

    def test_the_own_choice(self):
        # Without a mix, the very ballots come back.
        numbers = random.Random(7)
        ballots = random_ballots(numbers, KEY, 3, 4)
        vote = hold_vote(KEY, 3, ballots, ())
        self.assertEqual(retell_vote(vote, tuple(ballot[1] for ballot in ballots)), (ballots, ()))

    def test_errors_in_their_order(self):
        numbers = random.Random(8)
        told = random_vote(numbers, KEY, 2, 3, 1)
        values = tuple(opening[0] for opening in told.board[2])
        early = Vote(KEY, 2)
        self.assertEqual(raised_by(retell_vote, early, ()), NoWitness)
        for name, cover, run in told.board[0]:
            early.cast(name, cover, run, coin=run[1])
        self.assertEqual(raised_by(retell_vote, early, values), NoWitness)
        rows, run = told.board[1][0]
        early.mix(rows, run, coin=run[1])
        self.assertEqual(raised_by(retell_vote, early, values), NoWitness)
        self.assertEqual(raised_by(retell_vote, early, ()), NoWitness)
        early.tell(told.board[2])
        self.assertIsNone(raised_by(retell_vote, early, values))
        for vote in (Vote(OPEN, 2), random_vote(numbers, OPEN, 2, 3, 1)):
            for options in ((), values, (2, 2, 2), (0, 0, 0)):
                self.assertEqual(raised_by(retell_vote, vote, options), OpenKey)


def random_reading(numbers, vote):
    """Return openings of the ballots and readings of the mixes, honest or not."""
    openings = tuple(numbers.choice(all_openings(vote.key, cover)) for _, cover, _ in vote.board[0])
    readings = tuple(
        read_mix(random_witness(numbers, vote.key.group, mix_claim(vote.key, rows))) for rows, _ in vote.board[1]
    )
    return openings, readings


class Relations(unittest.TestCase):
    def test_any_readings(self):
        numbers = random.Random(9)
        revealed = silent = 0
        for key, options in ALL_KEYS:
            q = key.group.order
            for many, mixes in ((0, 0), (0, 1), (1, 0), (1, 1), (2, 1), (2, 2), (3, 1), (3, 0), (3, 2)):
                vote = random_vote(numbers, key, options, many, mixes)
                for _ in range(6):
                    openings, readings = random_reading(numbers, vote)
                    found = vote_relation(vote, openings, readings)
                    moved = openings
                    for settings, blinds in readings:
                        moved = mixed_openings(q, moved, settings, blinds)
                    values = [opening[0] for opening in moved]
                    if values == [opening[0] for opening in vote.board[2]]:
                        self.assertIsNone(found)
                        silent += 1
                        counts = [sum(opening[0] == option for opening in openings) for option in range(options)]
                        self.assertEqual(tuple(counts), vote.tally)
                    else:
                        self.assertTrue(key.hiding)
                        self.assertEqual(found, key.relation)
                        revealed += 1
        self.assertGreater(revealed, 100)
        self.assertGreater(silent, 100)

    def test_honest_readings(self):
        numbers = random.Random(10)
        for key, options in ALL_KEYS:
            for many, mixes in ((2, 1), (4, 3), (8, 2), (0, 0)):
                ballots = random_ballots(numbers, key, options, many)
                mixed = random_mixes(numbers, key, many, mixes)
                vote = hold_vote(key, options, ballots, mixed)
                openings = tuple(ballot[1:3] for ballot in ballots)
                readings = tuple(mix[:2] for mix in mixed)
                self.assertIsNone(vote_relation(vote, openings, readings))

    def test_each_refusal(self):
        numbers = random.Random(11)
        for key in (KEY, OPEN):
            ballots = random_ballots(numbers, key, 2, 3)
            mixed = random_mixes(numbers, key, 3, 2)
            vote = hold_vote(key, 2, ballots, mixed)
            openings = tuple(ballot[1:3] for ballot in ballots)
            readings = tuple(mix[:2] for mix in mixed)
            self.assertIsNone(raised_by(vote_relation, vote, openings, readings))
            wrong = [((), readings), (openings[:2], readings), ((*openings, openings[0]), readings)]
            wrong += [(openings, ()), (openings, readings[:1]), (openings, (*readings, readings[0]))]
            for at, (value, blind) in enumerate(openings):
                for pair in ((value + 1, blind), (value + 5, blind), (value - 5, blind), (value, blind + 5),
                             (value, blind - 5), (10 ** 59, 0)):
                    wrong.append((with_part(openings, (at,), pair), readings))
                if key.hiding:
                    wrong.append((with_part(openings, (at, 1), (blind + 1) % 5), readings))
            for at, (settings, blinds) in enumerate(readings):
                for reading in (
                    ((), blinds), (settings[1:], blinds), (with_part(settings, (0,), 2), blinds), (settings, ()),
                    (settings, (*blinds, (0, 0))), (settings, with_part(blinds, (1, 0), 5)),
                    (settings, with_part(blinds, (2, 1), -1)),
                ):
                    wrong.append((openings, with_part(readings, (at,), reading)))
                if key.hiding:
                    changed = with_part(blinds, (2, 1), (blinds[2][1] + 1) % 5)
                    wrong.append((openings, with_part(readings, (at,), (settings, changed))))
            for one in wrong:
                self.assertEqual(raised_by(vote_relation, vote, *one), NotAccepted)

    def test_readings_that_do_not_give_the_rows(self):
        numbers = random.Random(12)
        vote = random_vote(numbers, KEY, 2, 3, 1)
        openings, _ = random_reading(numbers, vote)
        rows = vote.board[1][0][0]
        for _ in range(60):
            settings, blinds, _, _ = random_mix(numbers, KEY, 3)
            right = mix_rows(KEY, rows[0], settings, blinds) == rows
            expected = None if right else NotAccepted
            self.assertEqual(raised_by(vote_relation, vote, openings, ((settings, blinds),)), expected)

    def test_before_it_is_told(self):
        numbers = random.Random(13)
        vote = Vote(KEY, 2)
        self.assertEqual(raised_by(vote_relation, vote, (), ()), NotAccepted)
        ballots = random_ballots(numbers, KEY, 2, 2)
        for name, *rest, challenge in ballots:
            cover, run = make_ballot(KEY, 2, *rest, challenge)
            vote.cast(name, cover, run, coin=challenge)
        openings = tuple(ballot[1:3] for ballot in ballots)
        self.assertEqual(raised_by(vote_relation, vote, openings, ()), NotAccepted)
        vote.tell(openings)
        self.assertIsNone(vote_relation(vote, openings, ()))
        self.assertEqual(NAMES[:2], tuple(ballot[0] for ballot in vote.board[0]))
