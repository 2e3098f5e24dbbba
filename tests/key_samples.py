"""Keys of all kinds, and numbers for the tests of claims."""

from hushpapers.covers import Key
from tests.samples import small_groups


def some_keys(orders=(3, 5, 7)):
    """Return hiding keys, open keys and keys with two equal bases, in groups of both kinds."""
    keys = []
    for group in small_groups():
        if group.order in orders:
            others = [member for member in group.members if member != group.unit]
            for base in (others[0], others[-1]):
                keys += [Key(group, base, blind_base) for blind_base in (group.unit, base, others[1])]
    return keys


def any_number(numbers):
    """Return a small or a large integer of either sign."""
    return numbers.choice((-1, 1)) * numbers.choice((numbers.randrange(8), numbers.randrange(10 ** 50)))


def all_openings(key, cover):
    q = key.group.order
    return [(v, b) for v in range(q) for b in range(q) if key.cover(v, b) == cover]
