"""A vote by covered ballots, which mixes put in another order before they are told."""

from hushpapers.claims import choice_claim, choice_witness
from hushpapers.errors import (
    BadStatement, BadTape, Closed, DoubleName, Full, NotAccepted, NoWitness, OpenKey, Refused,
)
from hushpapers.mixing import (
    mix_claim, mix_rows, mix_witness, mixed_openings, retell_mix, settings_for,
)
from hushpapers.residues import is_residue, is_tuple_of
from hushpapers.runs import accepts, check_coin, matching_tape, run_of

MOST_OPTIONS = 64
MOST_BALLOTS = 8
CASTING = "casting"
MIXING = "mixing"
TOLD = "told"


def _ballot_claim(key, options, cover):
    """Return the claim that the cover opens to one of the options."""
    return choice_claim(key, cover, tuple(range(options)))


def _ballot_witness(key, options, option, blind):
    """Return the witness of a ballot's claim."""
    return choice_witness(key, (option, blind), tuple(range(options)))


def _tally_of(options, openings):
    """Return the number of openings for each option."""
    values = [opening[0] for opening in openings]
    return tuple([values.count(option) for option in range(options)])


def _is_opening(key, cover, opening):
    """Tell whether the opening consists of residues and opens the cover."""
    q = key.group.order
    if not is_tuple_of(2, opening):
        return False
    value, blind = opening
    return is_residue(q, value) and is_residue(q, blind) and key.opens(cover, value, blind)


class Vote:
    """Ballots, mixes of their covers, and the openings that are told in the end."""

    def __init__(self, key, options):
        if not 1 <= options <= min(key.group.order - 1, MOST_OPTIONS):
            raise BadStatement()
        self.key = key
        self.options = options
        self._stage = CASTING
        self._ballots = ()
        self._mixes = ()
        self._told = ()
        self._tally = None

    @property
    def stage(self):
        """What is done now: casting, mixing, or nothing as all is told."""
        return self._stage

    @property
    def tally(self):
        """The number of told openings for each option, or None."""
        return self._tally

    @property
    def board(self):
        """The ballots, the mixes and the told openings."""
        return self._ballots, self._mixes, self._told

    def covers(self):
        """Return the covers in the order of now."""
        if self._mixes:
            return self._mixes[-1][0][-1]
        return tuple([ballot[1] for ballot in self._ballots])

    def cast(self, name, cover, run, *, coin):
        """Take a ballot."""
        if self._stage != CASTING:
            raise Closed()
        if len(self._ballots) == MOST_BALLOTS:
            raise Full()
        if name in [ballot[0] for ballot in self._ballots]:
            raise DoubleName()
        check_coin(run, coin)
        if not self._takes_ballot(cover, run):
            raise Refused()
        self._ballots = (*self._ballots, (name, cover, run))

    def _takes_ballot(self, cover, run):
        """Tell whether cover and run, of any form, are those of a ballot."""
        group = self.key.group
        return group.has(cover) and accepts(group, _ballot_claim(self.key, self.options, cover), run)

    def mix(self, rows, run, *, coin):
        """Take a mix of the covers in the order of now."""
        if self._stage == TOLD:
            raise Closed()
        check_coin(run, coin)
        if not self._takes_mix(rows, run):
            raise Refused()
        self._mixes = (*self._mixes, (rows, run))
        self._stage = MIXING

    def _takes_mix(self, rows, run):
        """Tell whether rows and run, of any form, are those of a mix of the covers."""
        try:
            statement = mix_claim(self.key, rows)
        except BadStatement:
            return False
        return rows[0] == self.covers() and accepts(self.key.group, statement, run)

    def tell(self, openings):
        """Take the openings of the covers in the order of now, and end the vote."""
        if self._stage == TOLD:
            raise Closed()
        covers = self.covers()
        if len(openings) != len(covers):
            raise Refused()
        for cover, opening in zip(covers, openings):
            if not _is_opening(self.key, cover, opening) or opening[0] >= self.options:
                raise Refused()
        self._told = openings
        self._tally = _tally_of(self.options, openings)
        self._stage = TOLD


def make_ballot(key, options, option, blind, tape, challenge):
    """Return the cover and the run of a ballot."""
    group = key.group
    if not is_residue(options, option):
        raise NoWitness()
    if not is_residue(group.order, blind):
        raise BadTape()
    cover = key.cover(option, blind)
    witness = _ballot_witness(key, options, option, blind)
    run = run_of(group, _ballot_claim(key, options, cover), witness, tape, challenge)
    return cover, run


def make_mix(key, row, settings, blinds, tape, challenge):
    """Return the rows and the run of a mix."""
    rows = mix_rows(key, row, settings, blinds)
    witness = mix_witness(settings, blinds)
    return rows, run_of(key.group, mix_claim(key, rows), witness, tape, challenge)


def hold_vote(key, options, ballots, mixes):
    """Return the whole vote, told."""
    vote = Vote(key, options)
    openings = ()
    for name, option, blind, tape, challenge in ballots:
        cover, run = make_ballot(key, options, option, blind, tape, challenge)
        vote.cast(name, cover, run, coin=challenge)
        openings = (*openings, (option, blind))
    for settings, blinds, tape, challenge in mixes:
        rows, run = make_mix(key, vote.covers(), settings, blinds, tape, challenge)
        vote.mix(rows, run, coin=challenge)
        openings = mixed_openings(key.group.order, openings, settings, blinds)
    vote.tell(openings)
    return vote


def retell_ballot(key, options, cover, run, option):
    """Return blind and tape with which the option gives the same ballot."""
    if not key.hiding:
        raise OpenKey()
    if not is_residue(options, option):
        raise NoWitness()
    blind = key.blind_for(cover, option)
    witness = _ballot_witness(key, options, option, blind)
    return blind, matching_tape(key.group, _ballot_claim(key, options, cover), witness, run)


def _told_sources(told, options):
    """Return, for each told opening, the first ballot not taken that has its value."""
    places = []
    for value, _ in told:
        places.append([at for at in range(len(options)) if options[at] == value and at not in places][0])
    return tuple(places)


def _told_settings(board, options):
    """Return the settings of each mix: only the last one changes the order."""
    ballots, mixes, told = board
    if not mixes:
        return ()
    last = settings_for(_told_sources(told, options))
    return (*[(0,) * len(last) for _ in mixes[1:]], last)


def _leads_to(vote, options):
    """Tell whether ballots for these options can lead to what the vote has told."""
    _, mixes, told = vote.board
    values = [opening[0] for opening in told]
    if vote.tally is None or sorted(options) != sorted(values):
        return False
    return len(mixes) > 0 or list(options) == values


def retell_vote(vote, options):
    """Return ballots for these options, and mixes, that give the same board."""
    key = vote.key
    if not key.hiding:
        raise OpenKey()
    if not _leads_to(vote, options):
        raise NoWitness()
    ballots, mixes, _ = vote.board
    told_ballots = []
    for (name, cover, run), option in zip(ballots, options):
        blind, tape = retell_ballot(key, vote.options, cover, run, option)
        told_ballots.append((name, option, blind, tape, run[1]))
    told_mixes = []
    for (rows, run), settings in zip(mixes, _told_settings(vote.board, options)):
        blinds, tape = retell_mix(key, rows, run, settings)
        told_mixes.append((settings, blinds, tape, run[1]))
    return tuple(told_ballots), tuple(told_mixes)


def _gives_rows(key, rows, reading):
    """Tell whether the settings and blinds lead from the first row to all the rows."""
    settings, blinds = reading
    try:
        return mix_rows(key, rows[0], settings, blinds) == rows
    except BadTape:
        return False


def _fits_board(vote, openings, readings):
    """Tell whether the openings and readings are such of the ballots and the mixes."""
    ballots, mixes, _ = vote.board
    if vote.tally is None or len(openings) != len(ballots) or len(readings) != len(mixes):
        return False
    if not all([_is_opening(vote.key, ballot[1], item) for ballot, item in zip(ballots, openings)]):
        return False
    return all([_gives_rows(vote.key, mix[0], item) for mix, item in zip(mixes, readings)])


def vote_relation(vote, openings, readings):
    """Return the relation that the openings and readings reveal by unlike values, or None."""
    if not _fits_board(vote, openings, readings):
        raise NotAccepted()
    for settings, blinds in readings:
        openings = mixed_openings(vote.key.group.order, openings, settings, blinds)
    for opening, told in zip(openings, vote.board[2]):
        if opening[0] != told[0]:
            return vote.key.relation_from(opening, told)
    return None
