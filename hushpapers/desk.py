"""A desk that keeps a ledger line by line, and the opening of each account."""

from hushpapers.errors import BadLine, HushError, LineError, Refused, UnknownName
from hushpapers.ledger import (
    Ledger, is_name, moved_openings, payment_claim, payment_from,
)
from hushpapers.notation import drawn_residues, number_end
from hushpapers.ranges import range_weights
from hushpapers.statements import tape_length

# The kinds of the words behind the first one; those of audit depend on their number.
WORDS_OF = {
    "issue": ("name", "number", "number"),
    "pay": ("name", "name", "number", "number", "number"),
    "cover": ("name",),
    "undo": (),
}


def _is_number(word):
    """Tell whether the word is a number as a line has them."""
    return word != "" and number_end(word, 0) == len(word)


def _kinds_of(words):
    """Return the kinds of the words that must follow the first one."""
    if words[0] == "audit":
        return ("name",) * max(1, len(words) - 1)
    if words[0] not in WORDS_OF:
        raise BadLine(0)
    return WORDS_OF[words[0]]


def _is_of_kind(kind, word):
    """Tell whether the word is a name, or a number."""
    return is_name(word) if kind == "name" else _is_number(word)


def _check_words(words):
    """Raise BadLine unless the words are a line."""
    kinds = _kinds_of(words)
    for at, kind in enumerate(kinds, start=1):
        if at == len(words) or not _is_of_kind(kind, words[at]):
            raise BadLine(at)
    if len(words) > len(kinds) + 1:
        raise BadLine(len(kinds) + 1)


def _drawn_secret(key, top, seed):
    """Return the secret of a payment that follows from the seed."""
    many = len(range_weights(top))
    digits = (key.base,) * many
    # The length of the tape does not depend on the covers.
    length = tape_length(payment_claim(key, top, key.base, key.base, digits, digits))
    drawn = drawn_residues(seed, 1 + 2 * many + length, key.group.order)
    return drawn[0], drawn[1:1 + many], drawn[1 + many:1 + 2 * many], drawn[1 + 2 * many:]


class Desk:
    """A ledger, the openings of its accounts, and the lines that can be undone."""

    def __init__(self, key, top):
        self.key = key
        self.top = top
        self._ledger = Ledger(key, top)
        self._openings = {}
        # Each line that can be undone, with the openings before it of the accounts it changed.
        self._done = ()

    @property
    def ledger(self):
        """The ledger of now."""
        return self._ledger

    def line(self, text):
        """Do one line and return the answer."""
        words = text.split(" ")
        _check_words(words)
        if words[0] == "issue":
            return self._issue(text, words[1], int(words[2]), int(words[3]))
        if words[0] == "pay":
            amount, seed, coin = [int(word) for word in words[3:]]
            return self._pay(text, words[1], words[2], amount, seed, coin)
        if words[0] == "cover":
            return str(self._ledger.cover_of(words[1]))
        if words[0] == "audit":
            return self._audit(words[1:])
        return self._undo()

    def _issue(self, text, name, value, blind):
        """Open an account."""
        opening = (value, blind % self.key.group.order)
        self._ledger.issue(name, opening[0], opening[1])
        self._keep(text, {name: opening})
        return f"issued {name}"

    def _pay(self, text, sender, receiver, amount, seed, coin):
        """Make a payment and post it."""
        q = self.key.group.order
        secret = _drawn_secret(self.key, self.top, seed)
        step = ("pay", sender, receiver, amount, secret, coin % q)
        self._ledger.post(payment_from(self._ledger, self._openings, step), coin=coin % q)
        moved = (amount, secret[0])
        self._keep(text, moved_openings(q, self._openings, sender, receiver, moved))
        return f"paid {len(self._ledger)}"

    def _keep(self, text, changed):
        """Note a line that was done, and change the openings."""
        before = {name: self._openings.get(name) for name in changed}
        self._done = (*self._done, (text, before))
        self._openings.update(changed)

    def _audit(self, names):
        """Return the sums of the values and of the blinds of the accounts."""
        for name in names:
            if name not in self._openings:
                raise UnknownName()
        value = sum([self._openings[name][0] for name in names])
        blind = sum([self._openings[name][1] for name in names]) % self.key.group.order
        return f"{value} {blind}"

    def _undo(self):
        """Take back the last line that is not undone."""
        if not self._done:
            raise Refused()
        _, before = self._done[-1]
        for name, opening in before.items():
            if opening is None:
                del self._openings[name]
            else:
                self._openings[name] = opening
        self._done = self._done[:-1]
        self._ledger = self._ledger.shortened(len(self._done))
        return "undone"

    def lines(self, text):
        """Do all lines of the text, or none of them, and return the answers."""
        kept = (self._ledger, self._openings, self._done)
        self._ledger = self._ledger.shortened(len(self._ledger))
        self._openings = dict(self._openings)
        # The empty text has no lines, not an empty one.
        parts = text.split("\n") if text else []
        answers = []
        for number, line in enumerate(parts, start=1):
            try:
                answers.append(self.line(line))
            except HushError as error:
                self._ledger, self._openings, self._done = kept
                raise LineError(number) from error
        return tuple(answers)

    def paper(self):
        """Return the lines that are not undone."""
        return "\n".join([text for text, before in self._done])

    @classmethod
    def replayed(cls, key, top, paper):
        """Return a new desk that has done the lines of the paper."""
        desk = cls(key, top)
        desk.lines(paper)
        return desk
