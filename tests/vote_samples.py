"""Ballots, mixes and votes at random, for the tests of votes."""

from hushpapers.covers import Key
from hushpapers.groups import PowerGroup
from hushpapers.vote import hold_vote
from tests.ledger_samples import G5, G7, KEY, KEY_3, OPEN, OPEN_7, T5, random_row

KEY_7 = Key(G7, G7.members[2], G7.members[3])
TABLE_KEY = Key(T5, 4, 0)
G61 = PowerGroup(367, 61)
G67 = PowerGroup(269, 67)
HIDING = ((KEY, 2), (KEY, 4), (KEY, 1), (KEY_3, 2), (TABLE_KEY, 3), (KEY_7, 3), (KEY_7, 6))
ALL_KEYS = (*HIDING, (OPEN, 3), (OPEN_7, 2), (Key(G5, 4, 4), 3))
NAMES = ("a", "bb", "ccc", "dddd", "eeeee", "ffffff", "ggggggg", "hhhhhhhh", "z")


def count_switches(many):
    return many * (many - 1) // 2


def random_ballot(numbers, key, options, name, option=None):
    q = key.group.order
    option = numbers.randrange(options) if option is None else option
    # A choice of n values has n leaves of width 1, and n - 1 numbers of its own.
    return (name, option, numbers.randrange(q), random_row(numbers, q, 2 * options - 1), numbers.randrange(q))


def random_ballots(numbers, key, options, many):
    return tuple(random_ballot(numbers, key, options, name) for name in NAMES[:many])


def random_mix(numbers, key, many):
    """Return settings, blinds, tape and challenge of a mix of so many covers."""
    q = key.group.order
    switches = count_switches(many)
    # A switch has two leaves of width 2, and one number of its own.
    return (
        random_row(numbers, 2, switches), tuple(random_row(numbers, q, 2) for _ in range(switches)),
        random_row(numbers, q, 5 * switches), numbers.randrange(q),
    )


def random_mixes(numbers, key, many, mixes):
    return tuple(random_mix(numbers, key, many) for _ in range(mixes))


def random_vote(numbers, key, options, many, mixes):
    ballots = random_ballots(numbers, key, options, many)
    return hold_vote(key, options, ballots, random_mixes(numbers, key, many, mixes))


def state_of(vote):
    """Return all that can be read of a vote."""
    return vote.stage, vote.tally, vote.board, vote.key, vote.options
