"""What point [2] says of the whole program."""

import inspect
import random
import unittest

from hushpapers import errors
from hushpapers.auction import Auction, retell_auction
from hushpapers.desk import Desk
from hushpapers.ledger import Ledger, ledger_relation, retell_ledger, write_journal
from hushpapers.mixing import mix_claim, read_mix
from hushpapers.passes import Office, PassKey
from hushpapers.vote import Vote, retell_vote, vote_relation
from tests import auction_samples, ledger_samples, vote_samples
from tests.key_samples import all_openings
from tests.ledger_samples import KEY
from tests.plain_runs import random_witness
from tests.samples import raised_by


class Unchanged(unittest.TestCase):
    """No function modifies its arguments, also not those that have a state."""

    def test_ledgers(self):
        numbers = random.Random(1)
        ledger = ledger_samples.random_ledger(numbers, KEY, 2, 3, 3)
        before = ledger_samples.state_of(ledger)
        balances = (0, 0, 0)
        for call in (
            (write_journal, ledger), (retell_ledger, ledger, balances), (retell_ledger, ledger, (9, 9, 9)),
            (ledger_relation, ledger, (None, None, None)), (ledger_relation, ledger, ()),
        ):
            raised_by(*call)
            self.assertEqual(ledger_samples.state_of(ledger), before)

    def test_votes(self):
        numbers = random.Random(2)
        vote = vote_samples.random_vote(numbers, KEY, 2, 3, 2)
        before = vote_samples.state_of(vote)
        values = tuple(opening[0] for opening in vote.board[2])
        openings = tuple(all_openings(KEY, ballot[1])[0] for ballot in vote.board[0])
        readings = tuple(
            read_mix(random_witness(numbers, KEY.group, mix_claim(KEY, rows))) for rows, _ in vote.board[1]
        )
        for call in (
            (retell_vote, vote, values), (retell_vote, vote, (9,)), (vote_relation, vote, openings, readings),
            (vote_relation, vote, (), ()),
        ):
            raised_by(*call)
            self.assertEqual(vote_samples.state_of(vote), before)

    def test_auctions(self):
        numbers = random.Random(3)
        auction = auction_samples.random_auction(numbers, KEY, 3, (1, 2, 0))
        before = auction_samples.state_of(auction)
        for values in ((1, 2, 0), (0, 2, 2), (), (9, 9, 9)):
            raised_by(retell_auction, auction, values)
            self.assertEqual(auction_samples.state_of(auction), before)


class Kinds(unittest.TestCase):
    def check(self, value):
        """Check that a value holds only what values hold, and tuples as its sequences."""
        if isinstance(value, tuple):
            for item in value:
                self.check(item)
        else:
            self.assertIsInstance(value, (int, str))
            self.assertNotIsInstance(value, bool)

    def test_sequences_are_tuples(self):
        numbers = random.Random(4)
        ledger = ledger_samples.random_ledger(numbers, KEY, 2, 3, 3)
        vote = vote_samples.random_vote(numbers, KEY, 2, 3, 2)
        auction = auction_samples.random_auction(numbers, KEY, 3, (1, 2, 0))
        values = tuple(opening[0] for opening in vote.board[2])
        self.assertIsInstance(tuple(ledger)[0], tuple)
        for value in (
            tuple(ledger), ledger.names, ledger.issued, retell_ledger(ledger, (0, 0, 0)), vote.board, vote.tally,
            retell_vote(vote, values), auction.board, auction.winner, retell_auction(auction, (1, 2, 0)),
        ):
            self.assertIsInstance(value, tuple)
            self.check(value)

    def test_every_error_is_a_hush_error(self):
        found = [one for _, one in inspect.getmembers(errors, inspect.isclass)]
        self.assertEqual(len(found), 28)
        for one in found:
            self.assertTrue(issubclass(one, errors.HushError))

    def test_states_are_apart(self):
        pass_key = PassKey(KEY.group, 3, (4, 5, 9), 9)
        for first, second in (
            (Ledger(KEY, 2), Ledger(KEY, 2)), (Vote(KEY, 2), Vote(KEY, 2)), (Auction(KEY, 2), Auction(KEY, 2)),
            (Desk(KEY, 2), Desk(KEY, 2)), (Office(pass_key, 2), Office(pass_key, 2)),
        ):
            for name, value in vars(first).items():
                if isinstance(value, (list, dict)):
                    self.assertIsNot(value, vars(second)[name])
