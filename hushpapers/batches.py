"""Batches: leaves with one matrix, joined into one leaf by a weight."""

from hushpapers.errors import BadBatch, BadWitness
from hushpapers.ratios import ratio
from hushpapers.residues import first_powers, interpolate, times_root
from hushpapers.statements import fits, holds, leaf


def _check_batch(leaves):
    """Raise BadBatch unless there are leaves, all with one width and one matrix."""
    if not leaves:
        raise BadBatch()
    if not all([one[1:3] == leaves[0][1:3] for one in leaves]):
        raise BadBatch()


def batch(group, leaves, weight):
    """Return the leaf whose targets are weighted products of the leaves' targets."""
    _check_batch(leaves)
    _, width, matrix, _ = leaves[0]
    exponents = first_powers(weight, len(leaves), group.order)
    targets = [
        group.combine([one[3][row] for one in leaves], exponents) for row in range(len(matrix))
    ]
    return leaf(group, width, matrix, tuple(targets))


def holding_weights(group, leaves):
    """Return the weights for which the batch holds."""
    return tuple([
        weight for weight in range(group.order) if holds(group, batch(group, leaves, weight))
    ])


def worst_leaves(group, many):
    """Return leaves that do not all hold, with as many holding weights as there can be."""
    if not 1 <= many <= group.order + 1:
        raise BadBatch()
    coefficients = (1,)
    for root in range(many - 1):
        coefficients = times_root(coefficients, root, group.order)
    return tuple([
        leaf(group, 0, ((),), (group.power(group.generator, exponent),)) for exponent in coefficients
    ])


def batch_share(group, leaves):
    """Return the greatest success of a writer who learns the weight before the start."""
    q = group.order
    # If all leaves hold, all q weights do, and this is 1.
    many = len(holding_weights(group, leaves))
    return ratio(many * q + q - many, q * q)


def split_batch(group, leaves, pairs):
    """Return one witness for each leaf, from witnesses of batches with different weights."""
    _check_batch(leaves)
    weights = [weight % group.order for weight, witness in pairs]
    if len(weights) != len(leaves) or len(set(weights)) != len(weights):
        raise BadBatch()
    for weight, witness in pairs:
        if not fits(group, batch(group, leaves, weight), witness):
            raise BadWitness()
    columns = []
    for item in range(leaves[0][1]):
        points = [(weight, witness[item]) for weight, witness in pairs]
        columns.append(interpolate(tuple(points), group.order))
    return tuple([tuple([column[at] for column in columns]) for at in range(len(leaves))])
