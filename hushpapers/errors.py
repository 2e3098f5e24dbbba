"""The errors of the package: each is a direct subclass of HushError."""


class HushError(ValueError):
    """What every error of this package is."""


class NoInverse(HushError):
    """The number is 0 modulo q."""


class BadPoints(HushError):
    """Points or places are out of range, equal, or of a wrong number."""


class BadGroup(HushError):
    """A modulus and an order, or a table, do not give a group."""


class NoLogarithm(HushError):
    """No power of the base is the member."""


class BadKey(HushError):
    """The members of a key are not as they must be."""


class OpenKey(HushError):
    """The key is open where a hiding one is needed."""


class NotOneCover(HushError):
    """Two pairs have different covers."""


class SameOpening(HushError):
    """Two pairs are equal modulo q."""


class BadStatement(HushError):
    """There is no such statement."""


class BadWitness(HushError):
    """The witness does not fit the statement."""


class BadTape(HushError):
    """A tape has a wrong length, or an item that is not a residue."""


class BadChallenge(HushError):
    """The challenge is not a residue."""


class NotAccepted(HushError):
    """A run, a witness or an opening is not accepted."""


class DifferentStarts(HushError):
    """Two runs have different starts."""


class SameChallenge(HushError):
    """Two runs have the same challenge."""


class BadBatch(HushError):
    """The leaves do not make a batch, or do not split one."""


class NoWitness(HushError):
    """The values do not satisfy the claim."""


class Refused(HushError):
    """A system does not take what it is given."""


class WrongCoin(HushError):
    """The challenge of a run is not the coin."""


class UnknownName(HushError):
    """No account or bidder has the name."""


class DoubleName(HushError):
    """The name is taken."""


class Closed(HushError):
    """The stage for this is over, or has not come."""


class Full(HushError):
    """No more ballots are taken."""


class UnitPass(HushError):
    """The body of the pass is the unit."""


class BadText(HushError):
    """The text is no written form: the character at index `at` is wrong."""

    def __init__(self, at):
        super().__init__(f"wrong at index {at}")
        self.at = at


class BadLine(HushError):
    """The line is no command: the word at index `at` is wrong."""

    def __init__(self, at):
        super().__init__(f"wrong at word {at}")
        self.at = at


class LineError(HushError):
    """A line raised an error: the line `number`, counted from 1."""

    def __init__(self, number):
        super().__init__(f"error in line {number}")
        self.number = number
