"""Pass keys and passes at random, and the leaf of [60] by the words of the document."""

from hushpapers.groups import PowerGroup
from hushpapers.passes import PassKey
from tests.samples import plain_combine, plain_power, table_group

G3 = PowerGroup(7, 3)
G5 = PowerGroup(11, 5)
T5 = table_group((3, 1, 4, 0, 2))
G7 = PowerGroup(29, 7)
G127 = PowerGroup(509, 127)
KEY = PassKey(G5, 3, (4, 5, 9), 9)
KEYS = (
    KEY,
    PassKey(G5, 3, (4, 1, 4, 3), 3),
    PassKey(G5, 9, (), 4),
    PassKey(G5, 4, (1,), 4),
    PassKey(G3, 2, (2, 4, 4), 4),
    PassKey(G3, 4, (1, 1), 2),
    PassKey(T5, 4, (0, 1, 3, 2), 1),
    PassKey(G7, G7.members[2], (G7.members[1], G7.members[5], 1), G7.members[4]),
)


def plain_body(key, values, blind):
    return plain_combine(key.group, (key.mark, *key.bases, key.blind_base), (1, *values, blind))


def inverse_of(group, member):
    return plain_power(group, member, group.order - 1)


def plain_leaf(key, body, shown, values, line):
    """Return the leaf of [60], whether it may be built or not."""
    group = key.group
    hidden = [place for place in range(len(key.bases)) if place not in shown]
    first = [body]
    for place in hidden:
        first.append(inverse_of(group, key.bases[place]))
    first.append(inverse_of(group, key.blind_base))
    target = key.mark
    for place, value in zip(shown, values, strict=True):
        target = group.multiply(target, plain_power(group, key.bases[place], value))
    rows, targets = [tuple(first)], [target]
    if line:
        second = [group.unit] * (len(hidden) + 2)
        second[1 + hidden.index(0)] = plain_power(group, key.mark, line[0])
        second[1 + hidden.index(1)] = key.mark
        rows.append(tuple(second))
        targets.append(plain_power(group, key.mark, line[1]))
    return ("rows", len(hidden) + 2, tuple(rows), tuple(targets))


def random_pass(numbers, key):
    """Return values and a blind of a pass whose body is not the unit."""
    q = key.group.order
    while True:
        values = tuple(numbers.randrange(q) for _ in key.bases)
        blind = numbers.randrange(q)
        if plain_body(key, values, blind) != key.group.unit:
            return values, blind


def random_shown(numbers, key):
    return tuple(place for place in range(len(key.bases)) if numbers.randrange(2))


def can_have_line(key, shown):
    return len(key.bases) >= 2 and 0 not in shown and 1 not in shown


def random_tape(numbers, key, shown):
    return tuple(numbers.randrange(key.group.order) for _ in range(len(key.bases) - len(shown) + 2))
