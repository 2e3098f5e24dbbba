"""Bids, concessions and auctions at random, for the tests of auctions."""

from hushpapers.auction import hold_auction
from hushpapers.covers import Key
from tests.ledger_samples import (
    G5, G7, G127, KEY, KEY_3, OPEN, OPEN_7, T5, plain_weights, random_row,
)

KEY_7 = Key(G7, G7.members[2], G7.members[3])
TABLE_KEY = Key(T5, 4, 0)
BIG = Key(G127, G127.members[3], G127.members[40])
HIDING = ((KEY, 2), (KEY, 4), (KEY, 0), (KEY_3, 1), (KEY_3, 2), (TABLE_KEY, 3), (KEY_7, 5))
ALL_KEYS = (*HIDING, (OPEN, 4), (OPEN_7, 3), (Key(G5, 4, 4), 3))
NAMES = ("ann", "bob", "c", "abcdefgh", "eve")


def random_parts(numbers, key, top):
    """Return the digit blinds and the tape of an offer of a range."""
    q, many = key.group.order, len(plain_weights(top))
    return random_row(numbers, q, many), random_row(numbers, q, 3 * many + 1)


def random_bid(numbers, key, top, name, value):
    q = key.group.order
    return (name, value, numbers.randrange(q), *random_parts(numbers, key, top), numbers.randrange(q))


def winning_place(values):
    """Return the first place with the greatest value."""
    return min(at for at, value in enumerate(values) if all(value >= other for other in values))


def limits_of(values):
    """Return the limit of each bidder by the words of [63]."""
    at = winning_place(values)
    return tuple(values[at] - 1 if place < at else values[at] for place in range(len(values)))


def random_auction_parts(numbers, key, top, values):
    """Return bids with these values, and the concessions."""
    bids = tuple(random_bid(numbers, key, top, name, value) for name, value in zip(NAMES, values))
    concessions = tuple(
        (*random_parts(numbers, key, limit), numbers.randrange(key.group.order))
        for place, limit in enumerate(limits_of(values) if values else ()) if place != winning_place(values)
    )
    return bids, concessions


def random_auction(numbers, key, top, values):
    return hold_auction(key, top, *random_auction_parts(numbers, key, top, values))


def state_of(auction):
    """Return all that can be read of an auction."""
    limits = tuple(auction.limit_of(placed[0]) for placed in auction.board[0]) if auction.board[1] else None
    return auction.winner, auction.board, auction.key, auction.top, limits
