"""An auction with covered bids: the winner opens, and the others concede."""

from hushpapers.errors import (
    BadStatement, Closed, DoubleName, NoWitness, OpenKey, Refused, UnknownName,
)
from hushpapers.ranges import accepts_range, offer_range, retell_range
from hushpapers.residues import is_residue
from hushpapers.runs import check_coin


class Auction:
    """The bidders in the order of placing, the claim of one, and the concessions of the others."""

    def __init__(self, key, top):
        if not is_residue(key.group.order, top):
            raise BadStatement()
        self.key = key
        self.top = top
        self._places = ()
        self._claim = ()
        self._concessions = ()

    @property
    def winner(self):
        """The name and the bid of the winner once all others have conceded, or None."""
        if self._claim == () or len(self._concessions) < len(self._places) - 1:
            return None
        return self._claim[:2]

    @property
    def board(self):
        """The placed bids, the claim and the concessions."""
        return self._places, self._claim, self._concessions

    def _place_of(self, name):
        """Return the number of the bidder in the order of placing."""
        names = [placed[0] for placed in self._places]
        if name not in names:
            raise UnknownName()
        return names.index(name)

    def place(self, name, cover, digit_covers, run, *, coin):
        """Take a covered bid."""
        if self._claim:
            raise Closed()
        if name in [placed[0] for placed in self._places]:
            raise DoubleName()
        check_coin(run, coin)
        if not accepts_range(self.key, cover, self.top, digit_covers, run):
            raise Refused()
        self._places = (*self._places, (name, cover, digit_covers, run))

    def claim(self, name, bid, blind):
        """Open the cover of the winner."""
        if self._claim:
            raise Closed()
        at = self._place_of(name)
        if not self._can_win(at, bid, blind):
            raise Refused()
        self._claim = (name, bid, blind)

    def _can_win(self, at, bid, blind):
        """Tell whether the bidder can claim to win with this opening."""
        # Those who placed before must bid less, and nobody can bid less than 0.
        least = 0 if at == 0 else 1
        if not least <= bid <= self.top or not is_residue(self.key.group.order, blind):
            return False
        return self.key.opens(self._places[at][1], bid, blind)

    def limit_of(self, name):
        """Return the greatest bid of the bidder with which the winner still wins."""
        if not self._claim:
            raise Closed()
        winner, bid, _ = self._claim
        return bid if self._place_of(name) >= self._place_of(winner) else bid - 1

    def concede(self, name, digit_covers, run, *, coin):
        """Take what shows that the bid of another bidder is within the limit."""
        limit = self.limit_of(name)
        if name in (self._claim[0], *[conceded[0] for conceded in self._concessions]):
            raise DoubleName()
        check_coin(run, coin)
        cover = self._places[self._place_of(name)][1]
        if not accepts_range(self.key, cover, limit, digit_covers, run):
            raise Refused()
        self._concessions = (*self._concessions, (name, digit_covers, run))


def _check_bids(top, values, concessions):
    """Raise NoWitness unless the values and the number of concessions can be those of an auction."""
    if not all([0 <= value <= top for value in values]):
        raise NoWitness()
    if len(concessions) != max(0, len(values) - 1):
        raise NoWitness()


def _winning_place(values):
    """Return the number of the first bidder with the greatest value."""
    return values.index(max(values))


def hold_auction(key, top, bids, concessions):
    """Return the whole auction."""
    auction = Auction(key, top)
    values = [bid[1] for bid in bids]
    _check_bids(top, values, concessions)
    for name, value, blind, blinds, tape, challenge in bids:
        digit_covers, run = offer_range(key, (value, blind), top, blinds, tape, challenge)
        auction.place(name, key.cover(value, blind), digit_covers, run, coin=challenge)
    if not bids:
        return auction
    at = _winning_place(values)
    auction.claim(bids[at][0], bids[at][1], bids[at][2])
    others = [*bids[:at], *bids[at + 1:]]
    for bid, (blinds, tape, challenge) in zip(others, concessions):
        limit = auction.limit_of(bid[0])
        digit_covers, run = offer_range(key, (bid[1], bid[2]), limit, blinds, tape, challenge)
        auction.concede(bid[0], digit_covers, run, coin=challenge)
    return auction


def _check_values(auction, values):
    """Raise NoWitness unless the values are within the limits and the winner's is the bid."""
    places = auction.board[0]
    if auction.winner is None or len(values) != len(places):
        raise NoWitness()
    name, bid = auction.winner
    for placed, value in zip(places, values):
        if not 0 <= value <= auction.limit_of(placed[0]) or (placed[0] == name and value != bid):
            raise NoWitness()


def _retold_bid(auction, placed, value):
    """Return the bid with this value that is placed alike."""
    name, cover, digit_covers, run = placed
    blind, blinds, tape = retell_range(auction.key, cover, auction.top, digit_covers, run, value)
    return (name, value, blind, blinds, tape, run[1])


def _retold_concession(auction, placed, value):
    """Return what makes the bidder concede alike with this value."""
    name, cover = placed[:2]
    _, digit_covers, run = [conceded for conceded in auction.board[2] if conceded[0] == name][0]
    limit = auction.limit_of(name)
    _, blinds, tape = retell_range(auction.key, cover, limit, digit_covers, run, value)
    return (blinds, tape, run[1])


def retell_auction(auction, values):
    """Return bids and concessions with these values that give the same board."""
    if not auction.key.hiding:
        raise OpenKey()
    _check_values(auction, values)
    pairs = list(zip(auction.board[0], values))
    winner = auction.winner[0]
    bids = [_retold_bid(auction, placed, value) for placed, value in pairs]
    concessions = [
        _retold_concession(auction, placed, value) for placed, value in pairs if placed[0] != winner
    ]
    return tuple(bids), tuple(concessions)
