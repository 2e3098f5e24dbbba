"""Written forms of nested values, and the residues that are computed from them."""

from hushpapers.errors import BadText
from hushpapers.statements import is_leaf

DIGITS = "0123456789"
MOST_DIGITS = 9
MOST_LEVELS = 20
MODULUS = 999983
DIGEST_FACTOR = 131
DRAW_FACTOR = 48271
DRAW_STEP = 12345


def write_nested(value):
    """Return the written form of a nested value."""
    if isinstance(value, int):
        return str(value)
    inner = " ".join([write_nested(item) for item in value])
    return f"({inner})"


def number_end(text, at):
    """Return the index behind the longest number that begins at the index, or the index."""
    end = at
    # A leading zero is a number by itself.
    longest = at + (1 if text[at:at + 1] == "0" else MOST_DIGITS)
    while end < min(longest, len(text)) and text[end] in DIGITS:
        end += 1
    return end


def _read_value(text, at, levels):
    """Return the value that begins at the index, and the index behind it."""
    end = number_end(text, at)
    if end > at:
        return int(text[at:end]), end
    if text[at:at + 1] != "(" or levels == 0:
        raise BadText(at)
    return _read_items(text, at + 1, levels - 1)


def _read_items(text, at, levels):
    """Return the tuple whose items begin at the index, and the index behind it."""
    if text[at:at + 1] == ")":
        return (), at + 1
    value, at = _read_value(text, at, levels)
    items = [value]
    while text[at:at + 1] == " ":
        value, at = _read_value(text, at + 1, levels)
        items.append(value)
    if text[at:at + 1] != ")":
        raise BadText(at)
    return tuple(items), at + 1


def read_nested(text):
    """Return the nested value whose written form is the text."""
    value, end = _read_value(text, 0, MOST_LEVELS)
    if end != len(text):
        raise BadText(end)
    return value


def plain_statement(statement):
    """Return the statement as a nested value."""
    if is_leaf(statement):
        return (0, *statement[1:])
    _, need, kids = statement
    return (1, need, tuple([plain_statement(kid) for kid in kids]))


def digest(text, q):
    """Return the residue that stands for the text."""
    state = 1
    for character in text:
        state = (state * DIGEST_FACTOR + ord(character)) % MODULUS
    return state % q


def drawn_residues(seed, many, q):
    """Return `many` residues that follow from the seed."""
    state = seed % MODULUS
    drawn = []
    for _ in range(many):
        state = (state * DRAW_FACTOR + DRAW_STEP) % MODULUS
        drawn.append(state // 7 % q)
    return tuple(drawn)
