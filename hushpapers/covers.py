"""Keys, and the covers of values."""

from hushpapers.errors import BadKey, NotOneCover, OpenKey, SameOpening
from hushpapers.residues import inverse


def divide(group, first, second):
    """Return the first member times the inverse of the second."""
    return group.multiply(first, group.inverse_of(second))


def add_openings(q, first, second):
    """Return the sum of two openings, part by part."""
    return (first[0] + second[0]) % q, (first[1] + second[1]) % q


def subtract_openings(q, first, second):
    """Return the first opening minus the second, part by part."""
    return (first[0] - second[0]) % q, (first[1] - second[1]) % q


class Key:
    """A base for the values and a blind base for the blinds."""

    def __init__(self, group, base, blind_base):
        if not group.has(base) or not group.has(blind_base) or base == group.unit:
            raise BadKey()
        self.group = group
        self.base = base
        self.blind_base = blind_base
        self._relation = group.log(base, blind_base)

    @property
    def relation(self):
        """The logarithm of the blind base to the base."""
        return self._relation

    @property
    def hiding(self):
        """True if the blind base is not the unit."""
        return self._relation != 0

    def cover(self, value, blind):
        """Return the cover of the value with the blind."""
        return self.group.combine((self.base, self.blind_base), (value, blind))

    def opens(self, cover, value, blind):
        """Tell whether this is the cover of the value with the blind."""
        return self.cover(value, blind) == cover

    def blind_for(self, cover, value):
        """Return the only blind with which the cover opens to the value."""
        if not self.hiding:
            raise OpenKey()
        blind_part = divide(self.group, cover, self.group.power(self.base, value))
        return self.group.log(self.blind_base, blind_part)

    def count_openings(self, cover, value):
        """Return the number of blinds with which the cover opens to the value."""
        if self.hiding:
            return 1
        return self.group.order if self.opens(cover, value, 0) else 0

    def relation_from(self, first, second):
        """Return the relation that two different openings of one cover reveal."""
        if self.cover(first[0], first[1]) != self.cover(second[0], second[1]):
            raise NotOneCover()
        value, blind = subtract_openings(self.group.order, first, second)
        if value == 0 and blind == 0:
            raise SameOpening()
        return value * inverse(-blind, self.group.order) % self.group.order
