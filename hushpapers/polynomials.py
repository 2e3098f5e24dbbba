"""Polynomials under covers: claims about them, and shares of a secret."""

from hushpapers.claims import value_claim
from hushpapers.covers import divide
from hushpapers.errors import BadPoints, NotAccepted, OpenKey
from hushpapers.residues import first_powers, interpolate, value_at
from hushpapers.statements import every


def cover_coefficients(key, coefficients, blinds):
    """Return the covers of the coefficients with the blinds."""
    if len(coefficients) != len(blinds):
        raise BadPoints()
    return tuple([key.cover(value, blind) for value, blind in zip(coefficients, blinds)])


def cover_at(group, covers, point):
    """Return the cover of the polynomial's value at the point."""
    return group.combine(covers, first_powers(point, len(covers), group.order))


def point_claim(key, covers, point, value):
    """Return the claim that the polynomial has the value at the point."""
    return value_claim(key, cover_at(key.group, covers, point), value)


def meet_claim(key, first, second, point):
    """Return the claim that two polynomials have one value at the point."""
    group = key.group
    gap = divide(group, cover_at(group, first, point), cover_at(group, second, point))
    return value_claim(key, gap, 0)


def degree_claim(key, covers, degree):
    """Return the claim that no power greater than the degree has a coefficient but 0."""
    higher = covers[max(0, degree + 1):]
    return every(key.group, tuple([value_claim(key, cover, 0) for cover in higher]))


def deal(q, coefficients, blinds, many):
    """Return the shares (place, value, blind) for the places 1 to many."""
    if not 0 <= many < q or len(coefficients) != len(blinds):
        raise BadPoints()
    return tuple([
        (place, value_at(coefficients, place, q), value_at(blinds, place, q))
        for place in range(1, many + 1)
    ])


def share_fits(key, covers, share):
    """Tell whether the share is one of the polynomial under these covers."""
    place, value, blind = share
    return key.opens(cover_at(key.group, covers, place), value, blind)


def join_shares(q, shares):
    """Return the coefficients and the blinds of the shortest polynomials through the shares."""
    values = interpolate(tuple([(place, value) for place, value, blind in shares]), q)
    blinds = interpolate(tuple([(place, blind) for place, value, blind in shares]), q)
    return values, blinds


def _leave_secret_free(q, many, shares):
    """Tell whether the shares are one less than the covers, at places that fix no secret."""
    places = [share[0] % q for share in shares]
    return len(places) == many - 1 and 0 not in places and len(set(places)) == len(places)


def retell_deal(key, covers, shares, secret):
    """Return the coefficients and blinds with this secret under the same covers and shares."""
    q = key.group.order
    if not key.hiding:
        raise OpenKey()
    if not _leave_secret_free(q, len(covers), shares):
        raise BadPoints()
    if not all([share_fits(key, covers, share) for share in shares]):
        raise NotAccepted()
    points = [(place, value) for place, value, blind in shares]
    coefficients = interpolate(((0, secret), *points), q)
    blinds = [key.blind_for(cover, value) for cover, value in zip(covers, coefficients)]
    return coefficients, tuple(blinds)
