"""Range claims: a value is from 0 to a top, digit by digit."""

from hushpapers.claims import choice_claim, choice_openings, choice_witness, value_claim
from hushpapers.covers import divide, subtract_openings
from hushpapers.errors import BadStatement, BadTape, NoWitness
from hushpapers.residues import is_residue, is_residue_row
from hushpapers.runs import accepts, matching_tape, run_of
from hushpapers.statements import every, is_member_row

DIGITS = (0, 1)


def _count_doubling(top):
    """Return the greatest j with 2 ** j - 1 <= top."""
    many = 0
    while (2 << many) - 1 <= top:
        many = many + 1
    return many


def range_weights(top):
    """Return the weights of the digits of values from 0 to the top."""
    many = _count_doubling(top)
    weights = [1 << at for at in range(many)]
    extra = top - sum(weights)
    return (*weights, extra) if extra > 0 else tuple(weights)


def range_digits(top, value):
    """Return zeros and ones whose sum, each times its weight, is the value."""
    if not 0 <= value <= top:
        raise NoWitness()
    many = _count_doubling(top)
    largest = (1 << many) - 1
    extra_digit = 1 if value > largest else 0
    rest = value - extra_digit * (top - largest)
    digits = [(rest >> at) % 2 for at in range(many)]
    return (*digits, extra_digit) if top > largest else tuple(digits)


def range_claim(key, cover, top, digit_covers):
    """Return the claim that the value is from 0 to the top."""
    group = key.group
    if not is_residue(group.order, top):
        raise BadStatement()
    weights = range_weights(top)
    if len(digit_covers) != len(weights):
        raise BadStatement()
    kids = [choice_claim(key, digit_cover, DIGITS) for digit_cover in digit_covers]
    # What the digits leave over is a cover of 0.
    rest = divide(group, cover, group.combine(digit_covers, weights))
    kids.append(value_claim(key, rest, 0))
    return every(group, tuple(kids))


def range_witness(key, opening, top, blinds):
    """Return the witness of a range claim whose digit covers have these blinds."""
    q = key.group.order
    digits = range_digits(top, opening[0])
    if not is_residue_row(q, len(digits), blinds):
        raise BadTape()
    kids = [choice_witness(key, pair, DIGITS) for pair in zip(digits, blinds)]
    total = sum([weight * blind for weight, blind in zip(range_weights(top), blinds)])
    return (*kids, ((opening[1] - total) % q,))


def range_openings(key, witness, top):
    """Return the opening that a witness of a range claim gives."""
    value = 0
    blind = witness[-1][0]
    for weight, item in zip(range_weights(top), witness):
        digit = choice_openings(key, item, DIGITS)[0]
        value = value + weight * digit[0]
        blind = blind + weight * digit[1]
    return ((value, blind % key.group.order),)


def cover_digits(key, top, value, blinds):
    """Return the digit covers of the value with these blinds."""
    digits = range_digits(top, value)
    return tuple([key.cover(digit, blind) for digit, blind in zip(digits, blinds)])


def digit_blinds(key, top, value, digit_covers):
    """Return the blinds with which the digit covers are those of the value."""
    digits = range_digits(top, value)
    return tuple([key.blind_for(cover, digit) for cover, digit in zip(digit_covers, digits)])


def accepts_range(key, cover, top, digit_covers, run):
    """Tell whether the parts, of any form, are covers and an accepted run of the range claim."""
    group = key.group
    if not group.has(cover) or not is_member_row(group, len(range_weights(top)), digit_covers):
        return False
    return accepts(group, range_claim(key, cover, top, digit_covers), run)


def offer_range(key, opening, top, blinds, tape, challenge):
    """Return digit covers and the honest run of the range claim."""
    witness = range_witness(key, opening, top, blinds)
    digit_covers = cover_digits(key, top, opening[0], blinds)
    claim = range_claim(key, key.cover(opening[0], opening[1]), top, digit_covers)
    return digit_covers, run_of(key.group, claim, witness, tape, challenge)


def retell_range(key, cover, top, digit_covers, run, value):
    """Return blind, blinds and tape with which the value gives the same range offer."""
    blind = key.blind_for(cover, value)
    blinds = digit_blinds(key, top, value, digit_covers)
    claim = range_claim(key, cover, top, digit_covers)
    witness = range_witness(key, (value, blind), top, blinds)
    return blind, blinds, matching_tape(key.group, claim, witness, run)


def order_claim(key, first, second, top, first_digits, second_digits, gap_digits):
    """Return the claim that both values are up to the top and the first is not the greater."""
    group = key.group
    if 2 * top >= group.order:
        raise BadStatement()
    return every(group, (
        range_claim(key, first, top, first_digits),
        range_claim(key, second, top, second_digits),
        range_claim(key, divide(group, second, first), top, gap_digits),
    ))


def order_witness(key, first, second, top, first_blinds, second_blinds, gap_blinds):
    """Return the witness of an order claim."""
    openings = (first, second, subtract_openings(key.group.order, second, first))
    if max([opening[0] for opening in openings]) > top:
        raise NoWitness()
    rows = (first_blinds, second_blinds, gap_blinds)
    return tuple([
        range_witness(key, opening, top, blinds) for opening, blinds in zip(openings, rows)
    ])


def order_openings(key, witness, top):
    """Return the openings of the first cover, of the second, and of their quotient."""
    return tuple([range_openings(key, item, top)[0] for item in witness])
