"""Numbers modulo a prime q: inverses, polynomials and share rows."""

from hushpapers.errors import BadPoints, NoInverse


def is_prime(n):
    """Tell whether n is a prime number."""
    if n < 2:
        return False
    divisor = 2
    while divisor * divisor <= n:
        if n % divisor == 0:
            return False
        divisor += 1
    return True


def is_residue(q, value):
    """Tell whether the value, of any kind, is a number from 0 to q - 1."""
    return isinstance(value, int) and 0 <= value < q


def is_tuple_of(length, value):
    """Tell whether the value, of any kind, is a tuple of `length` items."""
    return isinstance(value, tuple) and len(value) == length


def is_residue_row(q, length, value):
    """Tell whether the value, of any kind, is a tuple of `length` residues."""
    return is_tuple_of(length, value) and all([is_residue(q, item) for item in value])


def raised(number, exponent):
    """Return the number to the power of an exponent that is not below 0."""
    result = 1
    for _ in range(exponent):
        result = result * number
    return result


def first_powers(number, many, q):
    """Return the powers 0 to many - 1 of the number, modulo q."""
    powers = []
    power = 1
    for _ in range(many):
        powers.append(power)
        power = power * number % q
    return tuple(powers)


def inverse(a, q):
    """Return the residue whose product with a is 1 modulo q."""
    larger, smaller = q, a % q
    if smaller == 0:
        raise NoInverse()
    # Euclid's steps keep both numbers equal to their factors times a, modulo q.
    larger_factor, smaller_factor = 0, 1
    while smaller != 1:
        times = larger // smaller
        larger, smaller = smaller, larger - times * smaller
        larger_factor, smaller_factor = smaller_factor, larger_factor - times * smaller_factor
    return smaller_factor % q


def value_at(coefficients, x, q):
    """Return the polynomial's value at x, modulo q."""
    value = 0
    for coefficient in reversed(coefficients):
        value = (value * x + coefficient) % q
    return value


def times_root(coefficients, root, q):
    """Return the coefficients of the polynomial times (x - root)."""
    raised_by_x = (0, *coefficients)
    kept = (*coefficients, 0)
    return tuple([(high - root * low) % q for high, low in zip(raised_by_x, kept)])


def without_root(coefficients, root, q):
    """Return the polynomial divided by (x - root), without the remainder."""
    quotient = []
    carry = 0
    for coefficient in reversed(coefficients[1:]):
        carry = (carry * root + coefficient) % q
        quotient.append(carry)
    return tuple(reversed(quotient))


def interpolate(points, q):
    """Return the only polynomial with these values and as many coefficients."""
    places = [point[0] % q for point in points]
    if len(set(places)) != len(places):
        raise BadPoints()
    whole = (1,)
    for place in places:
        whole = times_root(whole, place, q)
    found = [0] * len(points)
    for place, point in zip(places, points):
        # This part is 0 at all other places, so scaling it sets one value.
        part = without_root(whole, place, q)
        scale = point[1] * inverse(value_at(part, place, q), q)
        found = [(old + scale * new) % q for old, new in zip(found, part)]
    return tuple(found)


def _can_pin(q, many, need, pinned):
    """Tell whether exactly one share row has the pinned shares."""
    places = [pair[0] for pair in pinned]
    if len(places) != many - need or len(set(places)) != len(places):
        return False
    if need < many and many >= q:
        return False
    return all([1 <= place <= many for place in places])


def share_row(q, many, need, challenge, pinned):
    """Return the share row for the challenge that has the pinned shares."""
    if not _can_pin(q, many, need, pinned):
        raise BadPoints()
    coefficients = interpolate(((0, challenge), *pinned), q)
    return tuple([value_at(coefficients, place, q) for place in range(1, many + 1)])


def is_share_row(q, need, challenge, row):
    """Tell whether the row is a share row for the challenge."""
    many = len(row)
    pinned = tuple(enumerate(row[:many - need], start=1))
    return row == share_row(q, many, need, challenge, pinned)


def all_rows(q, length):
    """Yield all tuples of `length` residues in ascending order."""
    row = [0] * length
    while True:
        yield tuple(row)
        at = length - 1
        while at >= 0 and row[at] == q - 1:
            row[at] = 0
            at = at - 1
        if at < 0:
            return
        row[at] = row[at] + 1
