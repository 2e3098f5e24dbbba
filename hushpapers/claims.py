"""Claims about covered values: their statements, their witnesses and what these open."""

from hushpapers.covers import divide
from hushpapers.errors import BadStatement, NoWitness
from hushpapers.residues import inverse
from hushpapers.statements import either, leaf


def known_claim(key, cover):
    """Return the claim that the writer knows an opening of the cover."""
    return leaf(key.group, 2, ((key.base, key.blind_base),), (cover,))


def known_witness(key, opening):
    """Return the witness of a known claim."""
    return opening


def known_openings(key, witness):
    """Return the opening that a witness of a known claim gives."""
    return (witness,)


def _without_value(key, cover, value):
    """Return the cover divided by the part of the value."""
    return divide(key.group, cover, key.group.power(key.base, value))


def value_claim(key, cover, value):
    """Return the claim that the cover opens to the value."""
    return leaf(key.group, 1, ((key.blind_base,),), (_without_value(key, cover, value),))


def value_witness(key, opening, value):
    """Return the witness of a value claim."""
    if (opening[0] - value) % key.group.order != 0:
        raise NoWitness()
    return (opening[1],)


def value_openings(key, witness, value):
    """Return the opening that a witness of a value claim gives."""
    return ((value % key.group.order, witness[0]),)


def same_claim(key, first, second):
    """Return the claim that both covers open to one value."""
    g, h, unit = key.base, key.blind_base, key.group.unit
    return leaf(key.group, 3, ((g, h, unit), (g, unit, h)), (first, second))


def same_witness(key, first, second):
    """Return the witness of a same claim."""
    if first[0] != second[0]:
        raise NoWitness()
    return (first[0], first[1], second[1])


def same_openings(key, witness):
    """Return the two openings that a witness of a same claim gives."""
    value, blind, other = witness
    return ((value, blind), (value, other))


def product_claim(key, first, second, third):
    """Return the claim that the third value is the product of the first and the second."""
    g, h, unit = key.base, key.blind_base, key.group.unit
    rows = (
        (g, h, unit, unit, unit),
        (unit, unit, g, h, unit),
        (unit, unit, first, unit, h),
    )
    return leaf(key.group, 5, rows, (first, second, third))


def product_witness(key, first, second, third):
    """Return the witness of a product claim."""
    q = key.group.order
    x, b = first
    y, d = second
    if third[0] != x * y % q:
        raise NoWitness()
    return (x, b, y, d, (third[1] - b * y) % q)


def product_openings(key, witness):
    """Return the three openings that a witness of a product claim gives."""
    q = key.group.order
    x, b, y, d, t = witness
    return ((x, b), (y, d), (x * y % q, (t + b * y) % q))


def _filled_row(key, width, entries):
    """Return a row with the entries, pairs of a column and a member, and the unit elsewhere."""
    row = [key.group.unit] * width
    for column, member in entries:
        row[column] = member
    return tuple(row)


def form_claim(key, covers, factors, total):
    """Return the claim that the values, each times its factor, sum up to the total."""
    many = len(covers)
    if len(factors) != many:
        raise BadStatement()
    g, h = key.base, key.blind_base
    rows = [_filled_row(key, 2 * many, ((at, g), (many + at, h))) for at in range(many)]
    last = [(at, key.group.power(g, factor)) for at, factor in enumerate(factors)]
    rows.append(_filled_row(key, 2 * many, last))
    return leaf(key.group, 2 * many, tuple(rows), (*covers, key.group.power(g, total)))


def form_witness(key, openings, factors, total):
    """Return the witness of a form claim."""
    values = [opening[0] for opening in openings]
    found = sum([value * factor for value, factor in zip(values, factors)])
    if (found - total) % key.group.order != 0:
        raise NoWitness()
    blinds = [opening[1] for opening in openings]
    return (*values, *blinds)


def form_openings(key, witness):
    """Return the openings that a witness of a form claim gives."""
    many = len(witness) // 2
    return tuple(zip(witness[:many], witness[many:]))


def powers_claim(key, covers):
    """Return the claim that the covers open to the powers 1, 2, .. of one value."""
    if not covers:
        raise BadStatement()
    h = key.blind_base
    width = len(covers) + 1
    rows = [_filled_row(key, width, ((0, key.base), (1, h)))]
    for at, cover in enumerate(covers[:-1]):
        rows.append(_filled_row(key, width, ((0, cover), (at + 2, h))))
    return leaf(key.group, width, tuple(rows), covers)


def powers_witness(key, openings):
    """Return the witness of a powers claim."""
    if not openings:
        raise NoWitness()
    q = key.group.order
    witness = list(openings[0])
    value = witness[0]
    for before, after in zip(openings, openings[1:]):
        if after[0] != before[0] * value % q:
            raise NoWitness()
        witness.append((after[1] - before[1] * value) % q)
    return tuple(witness)


def powers_openings(key, witness):
    """Return the openings that a witness of a powers claim gives."""
    q = key.group.order
    value, blind = witness[:2]
    openings = [(value, blind)]
    for number in witness[2:]:
        before = openings[-1]
        openings.append((before[0] * value % q, (number + before[1] * value) % q))
    return tuple(openings)


def exclusion_claim(key, cover, values):
    """Return the claim that the cover opens to none of the values."""
    g, h = key.base, key.blind_base
    width = 2 + 2 * len(values)
    rows = [_filled_row(key, width, ((0, g), (1, h)))]
    targets = [cover]
    for at, value in enumerate(values):
        column = 2 + 2 * at
        entries = ((column, _without_value(key, cover, value)), (column + 1, h))
        rows.append(_filled_row(key, width, entries))
        targets.append(g)
    return leaf(key.group, width, tuple(rows), tuple(targets))


def exclusion_witness(key, opening, values):
    """Return the witness of an exclusion claim."""
    q = key.group.order
    witness = list(opening)
    for value in values:
        gap = (opening[0] - value) % q
        if gap == 0:
            raise NoWitness()
        u = inverse(gap, q)
        witness.extend([u, -opening[1] * u % q])
    return tuple(witness)


def exclusion_openings(key, witness):
    """Return the opening that a witness of an exclusion claim gives."""
    return (witness[:2],)


def exclusion_relation(key, values, witness):
    """Return the relation of the key if the witness reveals it, or None."""
    v, b = witness[:2]
    for value, u, t in zip(values, witness[2::2], witness[3::2]):
        part = (v - value) * u
        if part % key.group.order != 1:
            return key.relation_from((part, b * u + t), (1, 0))
    return None


def choice_claim(key, cover, values):
    """Return the claim that the cover opens to one of the values."""
    return either(key.group, tuple([value_claim(key, cover, value) for value in values]))


def choice_witness(key, opening, values):
    """Return the witness of a choice claim, with the first kid that fits."""
    q = key.group.order
    fitting = [at for at, value in enumerate(values) if (opening[0] - value) % q == 0]
    if not fitting:
        raise NoWitness()
    witness = [None] * len(values)
    witness[fitting[0]] = (opening[1],)
    return tuple(witness)


def choice_openings(key, witness, values):
    """Return the opening that the first item of a choice witness gives."""
    given = [at for at, item in enumerate(witness) if item is not None]
    return value_openings(key, witness[given[0]], values[given[0]])
