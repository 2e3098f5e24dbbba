import itertools
import random
import unittest

from hushpapers.auction import Auction
from hushpapers.errors import (
    BadStatement, Closed, DoubleName, Refused, UnknownName, WrongCoin,
)
from hushpapers.ranges import offer_range, range_claim, range_openings
from hushpapers.runs import mimic
from hushpapers.statements import tape_length
from tests.auction_samples import (
    ALL_KEYS, BIG, KEY, KEY_3, NAMES, OPEN, random_parts, state_of,
)
from tests.plain_runs import random_witness, with_part
from tests.samples import raised_by


def placing(numbers, key, top, opening, challenge=1):
    """Return cover, digit covers and run of a bid."""
    blinds, tape = random_parts(numbers, key, top)
    return (key.cover(*opening), *offer_range(key, opening, top, blinds, tape, challenge))


def placed_auction(numbers, openings, key=KEY, top=3):
    auction = Auction(key, top)
    for name, opening in zip(NAMES, openings):
        auction.place(name, *placing(numbers, key, top, opening), coin=1)
    return auction


def claimed_auction(numbers, openings, at, key=KEY, top=3):
    auction = placed_auction(numbers, openings, key, top)
    auction.claim(NAMES[at], *openings[at])
    return auction


def concession(numbers, auction, name, opening, challenge=2):
    """Return digit covers and run of a concession."""
    limit = auction.limit_of(name)
    blinds, tape = random_parts(numbers, auction.key, limit)
    return offer_range(auction.key, opening, limit, blinds, tape, challenge)


def changed_runs(run):
    return [
        with_part(run, (0,), ()), with_part(run, (2,), ()), with_part(run, (1,), 5), with_part(run, (1,), -1),
        ((), run[1], ()), with_part(run, (2, 0, 0), (run[2][0][0] + 1) % 5),
    ]


def changed_covers(digit_covers):
    """Return tuples of digit covers that are no covers, or not so many."""
    found = [(*digit_covers, 3)]
    if digit_covers:
        found += [(), digit_covers[1:]]
    for at in range(len(digit_covers)):
        for member in (0, 2, 11, -1, 10 ** 59, KEY.group.multiply(digit_covers[at], 3)):
            found.append(with_part(digit_covers, (at,), member))
    return found


OPENINGS = ((1, 3), (2, 0), (2, 4), (0, 1))


class Making(unittest.TestCase):
    def test_tops(self):
        for key in (KEY, OPEN, KEY_3, BIG):
            q = key.group.order
            for top in (0, 1, q - 2, q - 1):
                auction = Auction(key, top)
                self.assertEqual(state_of(auction), (None, ((), (), ()), key, top, None))
            for top in (-1, q, q + 1, 10 ** 59, -10 ** 59):
                self.assertEqual(raised_by(Auction, key, top), BadStatement)


class Placing(unittest.TestCase):
    def test_board(self):
        numbers = random.Random(1)
        for key, top in (*ALL_KEYS, (BIG, 126), (KEY, 4)):
            auction = Auction(key, top)
            board = []
            for name in NAMES:
                opening = (numbers.randrange(top + 1), numbers.randrange(key.group.order))
                challenge = numbers.randrange(key.group.order)
                parts = placing(numbers, key, top, opening, challenge)
                self.assertIsNone(auction.place(name, *parts, coin=challenge))
                board.append((name, *parts))
                self.assertEqual(state_of(auction), (None, (tuple(board), (), ()), key, top, None))

    def test_mimicked_runs_are_taken(self):
        statement = range_claim(KEY, 9, 2, (3, 5))
        run = mimic(KEY.group, statement, 4, (2,) * tape_length(statement))
        auction = Auction(KEY, 2)
        auction.place("a", 9, (3, 5), run, coin=4)
        self.assertEqual(auction.board[0], (("a", 9, (3, 5), run),))

    def test_each_pair_of_errors_in_its_order(self):
        numbers = random.Random(2)
        cover, digit_covers, run = placing(numbers, KEY, 3, (2, 2))
        good = (cover, digit_covers, run)
        refused = [(wrong, digit_covers, run) for wrong in (0, 2, 11, -1, 10 ** 59, KEY.group.multiply(cover, 3))]
        refused += [(cover, wrong, run) for wrong in changed_covers(digit_covers)]
        refused += [(cover, digit_covers, wrong) for wrong in changed_runs(run)]
        auctions = (placed_auction(numbers, OPENINGS), claimed_auction(numbers, OPENINGS, 1))
        for (closed, auction), name, right, parts in itertools.product(
            enumerate(auctions), ("ann", "new"), (True, False), (good, *refused)
        ):
            expected = Refused if parts != good else None
            if not right:
                expected = WrongCoin
            if name == "ann":
                expected = DoubleName
            if closed:
                expected = Closed
            if expected is not None:
                before = state_of(auction)
                coin = parts[2][1] if right else (parts[2][1] + 1) % 5
                self.assertEqual(raised_by(auction.place, name, *parts, coin=coin), expected)
                self.assertEqual(state_of(auction), before)
        self.assertIsNone(auctions[0].place("new", *good, coin=1))

    def test_top_zero(self):
        numbers = random.Random(3)
        auction = Auction(KEY, 0)
        parts = placing(numbers, KEY, 0, (0, 3))
        self.assertEqual(parts[1], ())
        self.assertEqual(raised_by(auction.place, "a", parts[0], (3,), parts[2], coin=1), Refused)
        auction.place("a", *parts, coin=1)
        auction.claim("a", 0, 3)
        self.assertEqual(auction.winner, ("a", 0))

    def test_another_top(self):
        # With two digits of 1 each, or with one digit fewer, the run is another one's.
        numbers = random.Random(4)
        for top, other in itertools.permutations(range(5), 2):
            parts = placing(numbers, KEY, top, (0, 2))
            while KEY.group.unit in parts[1]:
                parts = placing(numbers, KEY, top, (0, 2))
            self.assertEqual(raised_by(Auction(KEY, other).place, "a", *parts, coin=1), Refused)


class Claiming(unittest.TestCase):
    def test_every_bidder(self):
        numbers = random.Random(5)
        for key in (KEY, OPEN):
            for at in range(4):
                auction = placed_auction(numbers, OPENINGS, key)
                before = state_of(auction)
                if at == 3:
                    self.assertEqual(raised_by(auction.claim, NAMES[at], *OPENINGS[at]), Refused)
                    self.assertEqual(state_of(auction), before)
                    continue
                self.assertIsNone(auction.claim(NAMES[at], *OPENINGS[at]))
                bid = OPENINGS[at][0]
                limits = tuple(bid - 1 if place < at else bid for place in range(4))
                board = (before[1][0], (NAMES[at], *OPENINGS[at]), ())
                self.assertEqual(state_of(auction), (None, board, key, 3, limits))

    def test_each_pair_of_errors_in_its_order(self):
        numbers = random.Random(6)
        auctions = (placed_auction(numbers, OPENINGS), claimed_auction(numbers, OPENINGS, 1))
        cover = KEY.cover(2, 0)
        # All openings of the cover but those with a bid up to 3, and pairs that open it by chance alone.
        wrong = [(2, 1), (3, 0), (2, 5), (2, -5), (7, 0), (-3, 0), (10 ** 59, 0), (2, 10 ** 59), (4, KEY.blind_for(cover, 4))]
        for (closed, auction), name, pair in itertools.product(enumerate(auctions), ("bob", "x", ""), ((2, 0), *wrong)):
            expected = Refused if pair != (2, 0) else None
            if name != "bob":
                expected = UnknownName
            if closed:
                expected = Closed
            if expected is not None:
                before = state_of(auction)
                self.assertEqual(raised_by(auction.claim, name, *pair), expected)
                self.assertEqual(state_of(auction), before)
        self.assertIsNone(auctions[0].claim("bob", 2, 0))

    def test_tops_of_bids(self):
        # For each bid that opens the cover, the top decides.
        numbers = random.Random(7)
        for bid in range(5):
            auction = placed_auction(numbers, ((0, 2),), KEY, 3)
            blind = KEY.blind_for(KEY.cover(0, 2), bid)
            self.assertEqual(raised_by(auction.claim, "ann", bid, blind), Refused if bid == 4 else None)
            auction = placed_auction(numbers, ((0, 2), (0, 2)), KEY, 3)
            self.assertEqual(raised_by(auction.claim, "bob", bid, blind), Refused if bid in (0, 4) else None)
            auction = placed_auction(numbers, ((0, 2), (0, 2)), KEY, 3)
            self.assertEqual(raised_by(auction.claim, "ann", bid, blind), Refused if bid == 4 else None)

    def test_bids_that_are_no_residues(self):
        numbers = random.Random(15)
        cover = KEY.cover(0, 2)
        for bid, shift in ((-1, 0), (-5, 0), (5, 0), (7, 0), (2, 5), (2, -5)):
            auction = placed_auction(numbers, ((0, 2),), KEY, 3)
            blind = KEY.blind_for(cover, bid) + shift
            self.assertTrue(KEY.opens(cover, bid, blind))
            self.assertEqual(raised_by(auction.claim, "ann", bid, blind), Refused)

    def test_before_any_place(self):
        auction = Auction(KEY, 2)
        self.assertEqual(raised_by(auction.claim, "ann", 0, 0), UnknownName)
        self.assertIsNone(auction.winner)


class Limits(unittest.TestCase):
    def test_errors(self):
        numbers = random.Random(8)
        auction = placed_auction(numbers, OPENINGS)
        for name in ("ann", "bob", "x"):
            self.assertEqual(raised_by(auction.limit_of, name), Closed)
        self.assertEqual(raised_by(Auction(KEY, 2).limit_of, "x"), Closed)
        auction.claim("bob", 2, 0)
        for name in ("x", "", "eve"):
            self.assertEqual(raised_by(auction.limit_of, name), UnknownName)
        self.assertEqual([auction.limit_of(name) for name in NAMES[:4]], [1, 2, 2, 2])

    def test_a_bid_of_zero(self):
        numbers = random.Random(9)
        auction = claimed_auction(numbers, ((0, 1), (0, 2)), 0)
        self.assertEqual([auction.limit_of(name) for name in NAMES[:2]], [0, 0])
        auction = claimed_auction(numbers, ((0, 1), (1, 2), (0, 0)), 1)
        self.assertEqual([auction.limit_of(name) for name in NAMES[:3]], [0, 1, 1])


class Conceding(unittest.TestCase):
    def test_until_there_is_a_winner(self):
        numbers = random.Random(10)
        for key, order in itertools.product((KEY, OPEN), itertools.permutations((0, 2, 3))):
            auction = claimed_auction(numbers, OPENINGS, 1, key)
            board = auction.board
            for many, at in enumerate(order, start=1):
                self.assertIsNone(auction.winner)
                parts = concession(numbers, auction, NAMES[at], OPENINGS[at])
                self.assertIsNone(auction.concede(NAMES[at], *parts, coin=2))
                board = (*board[:2], (*board[2], (NAMES[at], *parts)))
                winner = ("bob", 2) if many == 3 else None
                self.assertEqual(state_of(auction), (winner, board, key, 3, (1, 2, 2, 2)))

    def test_one_bidder(self):
        auction = placed_auction(random.Random(11), OPENINGS[:1])
        self.assertIsNone(auction.winner)
        auction.claim("ann", 1, 3)
        self.assertEqual(auction.winner, ("ann", 1))

    def test_each_pair_of_errors_in_its_order(self):
        numbers = random.Random(12)
        early = placed_auction(numbers, OPENINGS)
        auction = claimed_auction(numbers, OPENINGS, 1)
        for name, opening in (("ann", OPENINGS[0]), ("abcdefgh", OPENINGS[3])):
            auction.concede(name, *concession(numbers, auction, name, opening), coin=2)
        good = concession(numbers, auction, "c", OPENINGS[2])
        refused = [(wrong, good[1]) for wrong in changed_covers(good[0])]
        refused += [(good[0], wrong) for wrong in changed_runs(good[1])]
        # The offer of another limit, and that of another cover.
        refused.append(placing(numbers, KEY, 3, OPENINGS[2], 2)[1:])
        refused.append(placing(numbers, KEY, 1, (1, 4), 2)[1:])
        refused.append(placing(numbers, KEY, 2, OPENINGS[0], 2)[1:])
        for one, name, right, parts in itertools.product(
            (early, auction), ("c", "ann", "abcdefgh", "bob", "x"), (True, False), (good, *refused)
        ):
            expected = Refused if parts != good else None
            if not right:
                expected = WrongCoin
            if name in ("ann", "abcdefgh", "bob"):
                expected = DoubleName
            if name == "x":
                expected = UnknownName
            if one is early:
                expected = Closed
            if expected is not None:
                before = state_of(one)
                coin = parts[1][1] if right else (parts[1][1] + 1) % 5
                self.assertEqual(raised_by(one.concede, name, *parts, coin=coin), expected)
                self.assertEqual(state_of(one), before)
        self.assertIsNone(auction.concede("c", *good, coin=2))
        self.assertEqual(auction.winner, ("bob", 2))
        self.assertEqual(raised_by(auction.concede, "c", *good, coin=2), DoubleName)

    def test_the_limit_counts(self):
        # Who placed before the winner concedes to one less than the bid.
        numbers = random.Random(13)
        cover = KEY.cover(2, 0)
        for limit in range(5):
            for name, right in (("ann", limit == 1), ("c", limit == 2)):
                auction = claimed_auction(numbers, ((2, 0), (2, 4), (2, 1)), 1)
                member = auction.board[0][NAMES.index(name)][1]
                many = len(random_parts(numbers, KEY, limit)[0])
                statement = range_claim(KEY, member, limit, (cover,) * many)
                run = mimic(KEY.group, statement, 3, (1,) * tape_length(statement))
                self.assertEqual(
                    raised_by(auction.concede, name, (cover,) * many, run, coin=3), None if right else Refused
                )

    def test_what_the_openings_say(self):
        # Openings of the concessions that agree with those of the covers are within the limits.
        numbers = random.Random(14)
        for _ in range(30):
            auction = claimed_auction(numbers, OPENINGS, 1)
            for at in (0, 2, 3):
                parts = concession(numbers, auction, NAMES[at], OPENINGS[at])
                auction.concede(NAMES[at], *parts, coin=2)
            for name, digit_covers, _ in auction.board[2]:
                cover = auction.board[0][NAMES.index(name)][1]
                limit = auction.limit_of(name)
                witness = random_witness(numbers, KEY.group, range_claim(KEY, cover, limit, digit_covers))
                (value, blind), = range_openings(KEY, witness, limit)
                self.assertTrue(KEY.opens(cover, value, blind))
                self.assertTrue(0 <= value <= limit)
