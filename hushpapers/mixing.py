"""Mixes: covers change their places and blinds in layers of switches."""

from hushpapers.covers import add_openings, divide
from hushpapers.errors import BadStatement, BadTape, OpenKey
from hushpapers.residues import is_residue_row
from hushpapers.runs import matching_tape
from hushpapers.statements import either, every, is_member_row, leaf

MOST_COVERS = 8
STRAIGHT = 0
CROSSED = 1


def switch_places(many):
    """Return, for each layer, the lower places of its switches."""
    return tuple([tuple(range(layer % 2, many - 1, 2)) for layer in range(many)])


def _count_switches(many):
    """Return the number of switches of a mix of `many` covers."""
    return many * (many - 1) // 2


def _check_settings(many, settings):
    """Raise BadTape unless there is a setting, 0 or 1, for each switch."""
    if not is_residue_row(2, _count_switches(many), settings):
        raise BadTape()


def _by_layer(many, items):
    """Return, for each layer, the pairs of a switch's lower place and its item."""
    layers = []
    at = 0
    for places in switch_places(many):
        layers.append(tuple(zip(places, items[at:at + len(places)])))
        at = at + len(places)
    return tuple(layers)


def _exchanged(row, switches):
    """Return the row behind a layer of switches, given as places and settings."""
    changed = list(row)
    for place, setting in switches:
        if setting == CROSSED:
            changed[place], changed[place + 1] = row[place + 1], row[place]
    return tuple(changed)


def _added_blinds(many, switches):
    """Return, for each place, the blind that a layer of places and pairs adds to it."""
    added = [0] * many
    for place, pair in switches:
        added[place], added[place + 1] = pair
    return tuple(added)


def mix_rows(key, row, settings, blinds):
    """Return all rows of covers of a mix, the given one first."""
    group = key.group
    many = len(row)
    _check_settings(many, settings)
    if len(blinds) != len(settings):
        raise BadTape()
    if not all([is_residue_row(group.order, 2, pair) for pair in blinds]):
        raise BadTape()
    rows = [row]
    for switches, pairs in zip(_by_layer(many, settings), _by_layer(many, blinds)):
        moved = _exchanged(rows[-1], switches)
        added = [key.cover(0, blind) for blind in _added_blinds(many, pairs)]
        rows.append(tuple([group.multiply(old, new) for old, new in zip(moved, added)]))
    return tuple(rows)


def source_places(many, settings):
    """Return, for each place of the last row, the place of its cover in the first row."""
    _check_settings(many, settings)
    row = tuple(range(many))
    for switches in _by_layer(many, settings):
        row = _exchanged(row, switches)
    return row


def settings_for(places):
    """Return settings that have these source places."""
    many = len(places)
    if sorted(places) != list(range(many)):
        raise BadStatement()
    goals = tuple([places.index(place) for place in range(many)])
    settings = []
    for lower_places in switch_places(many):
        layer = [CROSSED if goals[at] > goals[at + 1] else STRAIGHT for at in lower_places]
        goals = _exchanged(goals, tuple(zip(lower_places, layer)))
        settings.extend(layer)
    return tuple(settings)


def _check_rows(group, rows):
    """Raise BadStatement unless the rows, of any form, can be those of a mix."""
    if not isinstance(rows, tuple) or not 1 <= len(rows) <= MOST_COVERS + 1:
        raise BadStatement()
    many = len(rows) - 1
    if not all([is_member_row(group, many, row) for row in rows]):
        raise BadStatement()
    for before, after, places in zip(rows, rows[1:], switch_places(many)):
        kept = [at for at in range(many) if at not in places and at - 1 not in places]
        if not all([before[at] == after[at] for at in kept]):
            raise BadStatement()


def _switch_pairs(rows):
    """Return, for each switch, the two covers before it and the two behind it."""
    pairs = []
    for before, after, places in zip(rows, rows[1:], switch_places(len(rows) - 1)):
        pairs.extend([(before[at:at + 2], after[at:at + 2]) for at in places])
    return pairs


def _blind_parts(group, before, after, setting):
    """Return what the setting must have multiplied the two covers by."""
    sources = before[::-1] if setting == CROSSED else before
    return tuple([divide(group, new, old) for new, old in zip(after, sources)])


def _switch_claim(key, before, after):
    """Return the claim that a switch is straight or crossed."""
    group = key.group
    matrix = ((key.blind_base, group.unit), (group.unit, key.blind_base))
    return either(group, tuple([
        leaf(group, 2, matrix, _blind_parts(group, before, after, setting))
        for setting in (STRAIGHT, CROSSED)
    ]))


def mix_claim(key, rows):
    """Return the claim that the rows come from a mix."""
    _check_rows(key.group, rows)
    kids = [_switch_claim(key, before, after) for before, after in _switch_pairs(rows)]
    return every(key.group, tuple(kids))


def mix_witness(settings, blinds):
    """Return the witness of a mix claim."""
    return tuple([
        (None, pair) if setting == CROSSED else (pair, None) for setting, pair in zip(settings, blinds)
    ])


def read_mix(witness):
    """Return the settings and the blinds that a witness of a mix claim gives."""
    settings = tuple([STRAIGHT if kid[0] is not None else CROSSED for kid in witness])
    return settings, tuple([kid[setting] for kid, setting in zip(witness, settings)])


def mixed_openings(q, openings, settings, blinds):
    """Return the openings of the last row from those of the first."""
    many = len(openings)
    row = openings
    for switches, pairs in zip(_by_layer(many, settings), _by_layer(many, blinds)):
        moved = _exchanged(row, switches)
        added = [(0, blind) for blind in _added_blinds(many, pairs)]
        row = tuple([add_openings(q, old, new) for old, new in zip(moved, added)])
    return row


def retell_mix(key, rows, run, settings):
    """Return blinds and tape with which these settings give the same rows and run."""
    group = key.group
    if not key.hiding:
        raise OpenKey()
    statement = mix_claim(key, rows)
    _check_settings(len(rows) - 1, settings)
    blinds = []
    for (before, after), setting in zip(_switch_pairs(rows), settings):
        parts = _blind_parts(group, before, after, setting)
        blinds.append(tuple([group.log(key.blind_base, part) for part in parts]))
    witness = mix_witness(settings, blinds)
    return tuple(blinds), matching_tape(group, statement, witness, run)
