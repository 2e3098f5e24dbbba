import itertools
import random
import unittest

from hushpapers.auction import Auction, hold_auction, retell_auction
from hushpapers.errors import (
    BadChallenge, BadStatement, BadTape, DoubleName, NoWitness, OpenKey,
)
from hushpapers.ranges import offer_range
from tests.auction_samples import (
    ALL_KEYS, BIG, HIDING, KEY, NAMES, OPEN, limits_of, random_auction, random_auction_parts,
    random_bid, state_of, winning_place,
)
from tests.plain_runs import with_part
from tests.samples import raised_by


def plain_auction(key, top, bids, concessions):
    """Return the auction, made step by step."""
    auction = Auction(key, top)
    for name, value, blind, blinds, tape, challenge in bids:
        parts = offer_range(key, (value, blind), top, blinds, tape, challenge)
        auction.place(name, key.cover(value, blind), *parts, coin=challenge)
    if bids:
        values = [bid[1] for bid in bids]
        at = winning_place(values)
        auction.claim(*bids[at][:3])
        left = list(concessions)
        for place, bid in enumerate(bids):
            if place != at:
                blinds, tape, challenge = left.pop(0)
                limit = limits_of(values)[place]
                parts = offer_range(key, bid[1:3], limit, blinds, tape, challenge)
                auction.concede(bid[0], *parts, coin=challenge)
    return auction


class Holding(unittest.TestCase):
    def test_as_the_document_says(self):
        numbers = random.Random(1)
        for key, top in (*ALL_KEYS, (BIG, 126)):
            for many in range(5):
                for _ in range(3):
                    values = tuple(numbers.randrange(top + 1) for _ in range(many))
                    parts = random_auction_parts(numbers, key, top, values)
                    auction = hold_auction(key, top, *parts)
                    self.assertEqual(state_of(auction), state_of(plain_auction(key, top, *parts)))
                    if many == 0:
                        self.assertIsNone(auction.winner)
                        self.assertEqual(auction.board, ((), (), ()))
                    else:
                        at = winning_place(values)
                        self.assertEqual(auction.winner, (NAMES[at], values[at]))

    def test_equal_bids(self):
        numbers = random.Random(2)
        for values, winner in (
            ((2, 2), ("ann", 2)), ((1, 2, 2), ("bob", 2)), ((0, 0, 0), ("ann", 0)), ((0, 1, 0, 1), ("bob", 1)),
            ((2, 1, 2), ("ann", 2)), ((0,), ("ann", 0)),
        ):
            auction = random_auction(numbers, KEY, 2, values)
            self.assertEqual(auction.winner, winner)

    def test_errors_ahead_of_all_bids(self):
        numbers = random.Random(3)
        bids, concessions = random_auction_parts(numbers, KEY, 2, (1, 2, 0))
        worse = with_part(with_part(bids, (0, 3), ()), (1, 0), "ann")
        for top in (5, -1, 10 ** 59):
            for one in (bids, worse, (), with_part(bids, (0, 1), 9)):
                self.assertEqual(raised_by(hold_auction, KEY, top, one, ()), BadStatement)
        for value in (3, 4, 5, -1, 10 ** 59):
            for at in range(3):
                for one in (bids, worse):
                    self.assertEqual(
                        raised_by(hold_auction, KEY, 2, with_part(one, (at, 1), value), concessions), NoWitness
                    )
        for one in (bids, worse):
            for wrong in ((), concessions[:1], (*concessions, concessions[0])):
                self.assertEqual(raised_by(hold_auction, KEY, 2, one, wrong), NoWitness)
        self.assertEqual(raised_by(hold_auction, KEY, 2, (), concessions[:1]), NoWitness)
        self.assertIsNone(raised_by(hold_auction, KEY, 2, (), ()))
        self.assertEqual(raised_by(hold_auction, KEY, 2, bids[:1], concessions[:1]), NoWitness)
        self.assertIsNone(raised_by(hold_auction, KEY, 2, bids[:1], ()))

    def test_errors_of_bids_and_concessions(self):
        numbers = random.Random(4)
        bids, concessions = random_auction_parts(numbers, KEY, 2, (1, 2, 0))
        tape = bids[1][4]
        wrongs = (
            (BadTape, with_part(bids[1], (3,), (0,))), (BadTape, with_part(bids[1], (3, 1), 5)),
            (BadTape, with_part(bids[1], (4,), tape[1:])), (BadTape, with_part(bids[1], (4, 0), -1)),
            (BadTape, with_part(with_part(bids[1], (4,), ()), (5,), 5)), (BadChallenge, with_part(bids[1], (5,), 5)),
            (BadChallenge, with_part(bids[1], (5,), -1)), (DoubleName, with_part(bids[1], (0,), "ann")),
            (BadTape, with_part(with_part(bids[1], (4,), ()), (0,), "ann")),
            (BadChallenge, with_part(with_part(bids[1], (5,), 6), (0,), "ann")),
        )
        bad_concessions = (
            (BadTape, with_part(concessions[1], (0,), (0, 0, 0))), (BadTape, with_part(concessions[1], (0, 0), 5)),
            (BadTape, with_part(concessions[1], (1,), ())), (BadChallenge, with_part(concessions[1], (2,), 5)),
            (BadTape, with_part(with_part(concessions[1], (1,), ()), (2,), 5)),
        )
        for (error, wrong), (later, _), (_, concession) in itertools.product(wrongs, wrongs, bad_concessions):
            others = with_part(bids[2], (0,), "ann") if later is DoubleName else with_part(bids[2], (5,), 5)
            for third in (bids[2], others):
                call = (hold_auction, KEY, 2, (bids[0], wrong, third), (concessions[0], concession))
                self.assertEqual(raised_by(*call), error)
        for error, wrong in bad_concessions:
            self.assertEqual(raised_by(hold_auction, KEY, 2, bids, (concessions[0], wrong)), error)
            first = with_part(concessions[0], (2,), 5)
            self.assertEqual(raised_by(hold_auction, KEY, 2, bids, (first, wrong)), BadChallenge)
        first = with_part(concessions[0], (1,), ())
        self.assertEqual(raised_by(hold_auction, KEY, 2, bids, (first, bad_concessions[3][1])), BadTape)

    def test_limits_of_concessions(self):
        # Ann placed before the winner: the digits are those of a range up to one less.
        numbers = random.Random(5)
        bids, concessions = random_auction_parts(numbers, KEY, 4, (2, 4, 4))
        self.assertEqual([len(concession[0]) for concession in concessions], [2, 3])
        auction = hold_auction(KEY, 4, bids, concessions)
        self.assertEqual([auction.limit_of(name) for name in NAMES[:3]], [3, 4, 4])


class Retelling(unittest.TestCase):
    def test_every_choice_within_the_limits(self):
        numbers = random.Random(6)
        told = 0
        for key, top in HIDING:
            for many in (1, 2, 3):
                values = tuple(numbers.randrange(top + 1) for _ in range(many))
                parts = random_auction_parts(numbers, key, top, values)
                auction = hold_auction(key, top, *parts)
                self.assertEqual(retell_auction(auction, values), parts)
                at, limits = winning_place(values), limits_of(values)
                for others in itertools.product(range(-1, top + 2), repeat=many):
                    right = others[at] == values[at]
                    right = right and all(0 <= value <= limit for value, limit in zip(others, limits, strict=True))
                    if not right:
                        self.assertEqual(raised_by(retell_auction, auction, others), NoWitness)
                        continue
                    told += 1
                    bids, concessions = retell_auction(auction, others)
                    self.assertEqual(tuple(bid[1] for bid in bids), others)
                    self.assertEqual(hold_auction(key, top, bids, concessions).board, auction.board)
        self.assertGreater(told, 60)

    def test_concessions_in_another_order(self):
        numbers = random.Random(7)
        values = (1, 3, 2, 3)
        bids, concessions = random_auction_parts(numbers, KEY, 3, values)
        straight = hold_auction(KEY, 3, bids, concessions)
        for order in itertools.permutations(range(3)):
            auction = Auction(KEY, 3)
            for placed in straight.board[0]:
                auction.place(*placed, coin=placed[3][1])
            auction.claim(*straight.board[1])
            for at in order:
                auction.concede(*straight.board[2][at], coin=straight.board[2][at][2][1])
            for others in (values, (0, 3, 0, 0), (2, 3, 3, 3)):
                found = retell_auction(auction, others)
                self.assertEqual(found, retell_auction(straight, others))
                board = hold_auction(KEY, 3, *found).board
                self.assertEqual(board, straight.board)
                self.assertEqual(board[:2], auction.board[:2])
                self.assertEqual(sorted(board[2]), sorted(auction.board[2]))
            self.assertEqual(retell_auction(auction, values), (bids, concessions))

    def test_errors_in_their_order(self):
        numbers = random.Random(8)
        values = (1, 2, 2)
        auction = random_auction(numbers, KEY, 3, values)
        self.assertIsNone(raised_by(retell_auction, auction, (0, 2, 0)))
        for wrong in ((), (1, 2), (1, 2, 2, 0), (1, 1, 1), (1, 3, 2), (2, 2, 2), (1, 2, 3), (-1, 2, 0),
                      (1, 2, -1), (1, 7, 2), (6, 2, 2), (1, -3, 2), (10 ** 59, 2, 2)):
            self.assertEqual(raised_by(retell_auction, auction, wrong), NoWitness)
        early = Auction(KEY, 3)
        self.assertEqual(raised_by(retell_auction, early, ()), NoWitness)
        self.assertEqual(raised_by(retell_auction, hold_auction(KEY, 3, (), ()), ()), NoWitness)
        for placed in auction.board[0]:
            early.place(*placed, coin=placed[3][1])
            self.assertEqual(raised_by(retell_auction, early, values), NoWitness)
        early.claim(*auction.board[1])
        self.assertEqual(raised_by(retell_auction, early, values), NoWitness)
        for conceded in auction.board[2]:
            self.assertEqual(raised_by(retell_auction, early, values), NoWitness)
            early.concede(*conceded, coin=conceded[2][1])
        self.assertIsNone(raised_by(retell_auction, early, values))
        for shut in (random_auction(numbers, OPEN, 3, values), Auction(OPEN, 3)):
            for one in (values, (), (9, 9, 9)):
                self.assertEqual(raised_by(retell_auction, shut, one), OpenKey)

    def test_a_big_order(self):
        numbers = random.Random(9)
        auction = random_auction(numbers, BIG, 126, (90, 126, 0, 126))
        found = retell_auction(auction, (125, 126, 126, 7))
        self.assertEqual(hold_auction(BIG, 126, *found).board, auction.board)
        self.assertEqual(raised_by(retell_auction, auction, (126, 126, 0, 0)), NoWitness)
        self.assertEqual(len(random_bid(numbers, BIG, 126, "x", 5)), 6)
