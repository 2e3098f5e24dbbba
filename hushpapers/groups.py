"""The two kinds of groups of prime order."""

from hushpapers.errors import BadGroup, NoLogarithm
from hushpapers.residues import inverse, is_prime, is_residue_row

LARGEST_MODULUS = 1000
SMALLEST_ORDER = 3
LARGEST_POWER_ORDER = 127
LARGEST_TABLE_ORDER = 13


class Group:
    """What both kinds share: each kind has its own multiply."""

    def __init__(self, order, unit, members):
        self.order = order
        self.unit = unit
        self.members = members
        # The order is prime, so every member but the unit generates the group.
        self.generator = members[1] if members[0] == unit else members[0]
        self._powers = self._powers_of(self.generator)
        self._exponents = {member: exponent for exponent, member in enumerate(self._powers)}

    def _powers_of(self, element):
        """Return the powers 0 to order - 1 of the member."""
        powers = [self.unit]
        for _ in range(self.order - 1):
            powers.append(self.multiply(powers[-1], element))
        return tuple(powers)

    def exponents_of(self, row):
        """Return the logarithms of a row of members to the base generator."""
        return tuple([self._exponents[element] for element in row])

    def power(self, element, exponent):
        """Return the member to the power of any integer."""
        return self._powers[self._exponents[element] * exponent % self.order]

    def inverse_of(self, element):
        """Return the member whose product with this one is the unit."""
        return self.power(element, -1)

    def log(self, base, element):
        """Return the least exponent e >= 0 for which base to the power e is the member."""
        if element == self.unit:
            return 0
        if base == self.unit:
            raise NoLogarithm()
        return self._exponents[element] * inverse(self._exponents[base], self.order) % self.order

    def combine(self, factors, exponents):
        """Return the product of the factors, each to the power of its exponent."""
        total = 0
        for factor, exponent in zip(factors, exponents):
            total = total + self._exponents[factor] * exponent
        return self._powers[total % self.order]

    def has(self, value):
        """Tell whether the value, of any kind, is a member."""
        return isinstance(value, int) and value in self._exponents

    def carried(self, element, base, other, other_base):
        """Return the member of the other group that stands for this member."""
        return other.power(other_base, self.log(base, element))


def _power_modulo(number, exponent, modulus):
    """Return the number to the power of the exponent, modulo the modulus."""
    result = 1
    square = number
    while exponent > 0:
        if exponent % 2 == 1:
            result = result * square % modulus
        square = square * square % modulus
        exponent = exponent // 2
    return result


def _has_subgroup(modulus, order):
    """Tell whether modulus and order are primes as a PowerGroup needs them."""
    # The limits come first, as trying divisors of a huge number takes too long.
    if modulus > LARGEST_MODULUS or not SMALLEST_ORDER <= order <= LARGEST_POWER_ORDER:
        return False
    return is_prime(modulus) and is_prime(order) and (modulus - 1) % order == 0


class PowerGroup(Group):
    """The numbers whose power `order` is 1, multiplied modulo a prime."""

    def __init__(self, modulus, order):
        if not _has_subgroup(modulus, order):
            raise BadGroup()
        self.modulus = modulus
        members = [x for x in range(1, modulus) if _power_modulo(x, order, modulus) == 1]
        super().__init__(order, 1, tuple(members))

    def multiply(self, first, second):
        """Return the product of two members."""
        return first * second % self.modulus


def _is_square(table):
    """Tell whether the table, of any form, has q rows of q residues for a prime q."""
    if not isinstance(table, tuple):
        return False
    order = len(table)
    if not SMALLEST_ORDER <= order <= LARGEST_TABLE_ORDER or not is_prime(order):
        return False
    return all([is_residue_row(order, order, row) for row in table])


def _units(table):
    """Return the members that are a unit on both sides."""
    everyone = list(range(len(table)))
    return [
        unit for unit in everyone
        if all([table[unit][a] == a and table[a][unit] == a for a in everyone])
    ]


def _is_associative(table):
    """Tell whether brackets do not matter in any product of three members."""
    everyone = list(range(len(table)))
    for a in everyone:
        for b in everyone:
            if not all([table[table[a][b]][c] == table[a][table[b][c]] for c in everyone]):
                return False
    return True


def _is_group_table(table):
    """Tell whether the table, of any form, is the table of a group."""
    if not _is_square(table) or not _units(table):
        return False
    if not all([len(set(row)) == len(table) for row in table]):
        return False
    return _is_associative(table)


class TableGroup(Group):
    """The numbers 0 to order - 1, multiplied by a table."""

    def __init__(self, table):
        if not _is_group_table(table):
            raise BadGroup()
        self.table = table
        super().__init__(len(table), _units(table)[0], tuple(range(len(table))))

    def multiply(self, first, second):
        """Return the product of two members."""
        return self.table[first][second]
