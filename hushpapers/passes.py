"""Passes: sets of values of which a holder shows some, and the office that seals them."""

from hushpapers.errors import (
    BadKey, BadStatement, BadTape, NotAccepted, NoWitness, Refused, UnitPass,
)
from hushpapers.residues import inverse, is_residue, is_residue_row
from hushpapers.runs import accepts, check_coin, matching_tape, run_of
from hushpapers.statements import is_member_row, leaf

# The places of the values that a line joins, and that of the serial.
SLOPE_PLACE = 0
OFFSET_PLACE = 1
SERIAL_PLACE = 2


class PassKey:
    """A mark, one base for each value, and a blind base."""

    def __init__(self, group, mark, bases, blind_base):
        if not is_member_row(group, 2, (mark, blind_base)) or not is_member_row(group, len(bases), bases):
            raise BadKey()
        if group.unit in (mark, blind_base):
            raise BadKey()
        self.group = group
        self.mark = mark
        self.bases = bases
        self.blind_base = blind_base

    def body(self, values, blind):
        """Return the body of the pass."""
        factors = (self.mark, *self.bases, self.blind_base)
        return self.group.combine(factors, (1, *values, blind))


def _check_shown(key, shown, has_line):
    """Raise BadStatement unless these places can be shown, with or without a line."""
    many = len(key.bases)
    if not all([is_residue(many, place) for place in shown]):
        raise BadStatement()
    if not all([before < after for before, after in zip(shown, shown[1:])]):
        raise BadStatement()
    if has_line and (many <= OFFSET_PLACE or SLOPE_PLACE in shown or OFFSET_PLACE in shown):
        raise BadStatement()


def _hidden_places(key, shown):
    """Return the places that are not shown, in ascending order."""
    return [place for place in range(len(key.bases)) if place not in shown]


def _body_row(key, body, hidden):
    """Return the row about the body."""
    turned = [key.group.inverse_of(key.bases[place]) for place in hidden]
    return (body, *turned, key.group.inverse_of(key.blind_base))


def _line_row(key, hidden, spot):
    """Return the row about the line."""
    entries = {SLOPE_PLACE: key.group.power(key.mark, spot), OFFSET_PLACE: key.mark}
    unit = key.group.unit
    return (unit, *[entries.get(place, unit) for place in hidden], unit)


def show_statement(key, body, shown, values, line):
    """Return the leaf of a pass that shows these values, and perhaps a line."""
    group = key.group
    _check_shown(key, shown, len(line) > 0)
    numbers = (*values, *line)
    if len(values) != len(shown) or not is_residue_row(group.order, len(numbers), numbers):
        raise BadStatement()
    hidden = _hidden_places(key, shown)
    rows = [_body_row(key, body, hidden)]
    factors = [key.mark, *[key.bases[place] for place in shown]]
    targets = [group.combine(factors, (1, *values))]
    if line:
        spot, worth = line
        rows.append(_line_row(key, hidden, spot))
        targets.append(group.power(key.mark, worth))
    return leaf(group, len(hidden) + 2, tuple(rows), tuple(targets))


def _line_worth(q, values, spot):
    """Return the worth of the line of these values at the spot."""
    return (values[SLOPE_PLACE] * spot + values[OFFSET_PLACE]) % q


def _show_witness(key, values, blind, turn, shown):
    """Return the witness of a pass and a turn that is not 0."""
    q = key.group.order
    hidden = [values[place] for place in _hidden_places(key, shown)]
    return (inverse(turn, q), *hidden, blind % q)


def present(key, values, blind, turn, shown, tape, *, challenge, spot=None):
    """Return a request that shows a pass, and its witness."""
    group = key.group
    if key.body(values, blind) == group.unit:
        raise UnitPass()
    _check_shown(key, shown, spot is not None)
    line = () if spot is None else (spot, _line_worth(group.order, values, spot))
    shown_values = tuple([values[place] for place in shown])
    body = group.power(key.body(values, blind), turn)
    statement = show_statement(key, body, shown, shown_values, line)
    if not is_residue(group.order, turn) or turn == 0:
        raise BadTape()
    witness = _show_witness(key, values, blind, turn, shown)
    run = run_of(group, statement, witness, tape, challenge)
    return (body, shown, shown_values, line, run), witness


def read_show(key, request, witness):
    """Return the values, the blind and the turn that a witness of the request gives."""
    _, shown, shown_values, _, _ = request
    turn = inverse(witness[0], key.group.order)
    values = [0] * len(key.bases)
    for place, value in zip(shown, shown_values):
        values[place] = value
    for place, value in zip(_hidden_places(key, shown), witness[1:]):
        values[place] = value
    return tuple(values), witness[-1], turn


def _agrees(key, request, values):
    """Tell whether what the request shows is true of the values."""
    _, shown, shown_values, line, _ = request
    if any([values[place] != value for place, value in zip(shown, shown_values)]):
        return False
    return not line or _line_worth(key.group.order, values, line[0]) == line[1]


def retell_show(key, request, values, blind):
    """Return turn and tape with which this pass gives the same request."""
    group = key.group
    own_body = key.body(values, blind)
    if own_body == group.unit:
        raise UnitPass()
    body, shown, shown_values, line, run = request
    statement = show_statement(key, body, shown, shown_values, line)
    if not _agrees(key, request, values):
        raise NoWitness()
    if body == group.unit:
        raise NotAccepted()
    turn = group.log(own_body, body)
    witness = _show_witness(key, values, blind, turn, shown)
    return turn, matching_tape(group, statement, witness, run)


def seal_statement(key, public, body, sealed):
    """Return the leaf that says that the office sealed the body with its secret."""
    return leaf(key.group, 1, ((key.mark,), (body,)), (public, sealed))


class Office:
    """The secret with which bodies are sealed, and the lines that were kept."""

    def __init__(self, key, secret):
        if not is_residue(key.group.order, secret) or secret == 0:
            raise BadKey()
        self.key = key
        self.secret = secret
        self._public = key.group.power(key.mark, secret)
        self._lines = {}

    @property
    def public(self):
        """The mark to the power of the secret."""
        return self._public

    def _check_request(self, request, coin):
        """Raise an error unless the request is an accepted one with the coin."""
        body, shown, values, line, run = request
        check_coin(run, coin)
        try:
            statement = show_statement(self.key, body, shown, values, line)
        except BadStatement:
            raise Refused()
        if body == self.key.group.unit or not accepts(self.key.group, statement, run):
            raise Refused()

    def seal(self, request, tape, *, coin, challenge):
        """Return the sealed body of a request, and the run that shows that it is right."""
        group = self.key.group
        self._check_request(request, coin)
        sealed = group.power(request[0], self.secret)
        statement = seal_statement(self.key, self._public, request[0], sealed)
        return sealed, run_of(group, statement, (self.secret,), tape, challenge)

    def admit(self, request, sealed, *, coin):
        """Admit a sealed request; return (holder,) if its line is the second of a serial."""
        self._check_request(request, coin)
        body, shown, values, line, _ = request
        if sealed != self.key.group.power(body, self.secret):
            raise Refused()
        if not line:
            return ()
        if SERIAL_PLACE not in shown:
            raise Refused()
        serial = values[shown.index(SERIAL_PLACE)]
        if serial not in self._lines:
            self._lines[serial] = line
            return ()
        return (self._holder(self._lines[serial], line),)

    def _holder(self, kept, line):
        """Return the value 0 that two lines of one pass reveal."""
        q = self.key.group.order
        if line[0] == kept[0]:
            raise Refused()
        return (line[1] - kept[1]) * inverse(line[0] - kept[0], q) % q


def unturn(group, sealed, turn):
    """Return the sealed member without the turn."""
    return group.power(sealed, inverse(turn, group.order))
