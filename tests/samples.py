"""Groups, wrong values and plain ways of computing that several tests share."""

import itertools

from hushpapers.groups import PowerGroup, TableGroup

# Values of wrong forms, none of which is a tuple of numbers that fits anywhere by chance.
WRONG_FORMS = (None, (), ((),), (None,), (((1,),),), ((1,), (1,)), 10 ** 59, -1, ((((((),),),),),))


def primes_below(limit):
    """Return the primes below the limit by striking out multiples."""
    struck = [False] * limit
    primes = []
    for n in range(2, limit):
        if not struck[n]:
            primes.append(n)
            for multiple in range(n * n, limit, n):
                struck[multiple] = True
    return primes


def renamed_table(order, names):
    """Return the table of addition modulo order, with number i called names[i]."""
    number = {name: i for i, name in enumerate(names)}
    return tuple(
        tuple(names[(number[a] + number[b]) % order] for b in range(order)) for a in range(order)
    )


def table_group(names):
    return TableGroup(renamed_table(len(names), names))


def small_groups():
    """Return groups of both kinds, among them tables whose unit is not 0."""
    return (
        PowerGroup(7, 3),
        table_group((2, 0, 1)),
        PowerGroup(11, 5),
        table_group((3, 1, 4, 0, 2)),
        PowerGroup(29, 7),
        table_group((6, 0, 5, 1, 4, 2, 3)),
    )


def plain_power(group, element, exponent):
    """Return the power by multiplying again and again."""
    result = group.unit
    for _ in range(exponent):
        result = group.multiply(result, element)
    return result


def plain_combine(group, factors, exponents):
    """Return the product of powers by multiplying again and again."""
    result = group.unit
    for factor, exponent in zip(factors, exponents, strict=True):
        result = group.multiply(result, plain_power(group, factor, exponent))
    return result


def rows_of(q, length):
    """Return all tuples of residues in ascending order."""
    return list(itertools.product(range(q), repeat=length))


def raised_by(function, *args, **keywords):
    """Return the very class of the error that the call raises, or None."""
    try:
        function(*args, **keywords)
    except Exception as error:
        return error.__class__
    return None
