"""The names, parameters and places that the section on the interface lists."""

import importlib
import inspect
import unittest

from hushpapers.auction import Auction
from hushpapers.covers import Key
from hushpapers.desk import Desk
from hushpapers.groups import PowerGroup
from hushpapers.ledger import Ledger, make_payment
from hushpapers.passes import Office, PassKey, present
from hushpapers.ranges import offer_range
from hushpapers.vote import Vote, make_ballot, make_mix
from tests.samples import table_group

FUNCTIONS = {
    "residues": (
        "is_prime(n)", "inverse(a, q)", "value_at(coefficients, x, q)", "interpolate(points, q)",
        "share_row(q, many, need, challenge, pinned)", "is_share_row(q, need, challenge, row)",
        "all_rows(q, length)",
    ),
    "ratios": (
        "ratio(top, bottom)", "add_ratios(first, second)", "multiply_ratios(first, second)",
        "at_most(first, second)",
    ),
    "linear": (
        "reduced(q, width, rows)", "rank(q, width, rows)", "kernel(q, width, rows)",
        "solve(q, width, rows, targets)", "is_fixed(q, width, rows, form)",
    ),
    "covers": (
        "add_openings(q, first, second)", "subtract_openings(q, first, second)",
        "divide(group, first, second)",
    ),
    "statements": (
        "leaf(group, width, matrix, targets)", "at_least(group, need, kids)", "every(group, kids)",
        "either(group, kids)", "depth(statement)", "leaf_count(statement)", "tape_length(statement)",
        "holds(group, statement)", "fits(group, statement, witness)", "find_witness(group, statement)",
        "count_witnesses(group, statement)", "active_part(statement, witness)", "ways(statement)",
    ),
    "runs": (
        "accepts(group, statement, run)", "mimic(group, statement, challenge, tape)",
        "begin(group, statement, witness, tape)", "respond(group, statement, witness, tape, challenge)",
        "run_of(group, statement, witness, tape, challenge)", "mimic_tape(group, statement, run)",
        "matching_tape(group, statement, witness, run)", "extract(group, statement, first, second)",
        "answerable(group, statement, start)",
    ),
    "counting": (
        "freedom(group, statement)", "count_answers(group, statement, start, challenge)",
        "count_starts(group, statement)", "mimic_runs(group, statement, challenge)",
        "honest_runs(group, statement, witness, judge)", "kept_runs(group, statement, judge)",
    ),
    "strategies": (
        "success(group, statement, start, table)", "best_share(group, statement)",
        "best_strategy(group, statement)", "round_share(q, rounds, need)",
        "chain_success(group, statements, chain, need)", "chain_share(group, statements, need)",
        "best_chain(group, statements)", "side_success(group, statements, starts, table, need)",
    ),
    "batches": (
        "batch(group, leaves, weight)", "holding_weights(group, leaves)", "worst_leaves(group, many)",
        "batch_share(group, leaves)", "split_batch(group, leaves, pairs)",
    ),
    "claims": (
        "known_claim(key, cover)", "value_claim(key, cover, value)", "same_claim(key, first, second)",
        "product_claim(key, first, second, third)", "form_claim(key, covers, factors, total)",
        "powers_claim(key, covers)", "exclusion_claim(key, cover, values)", "choice_claim(key, cover, values)",
        "known_witness(key, opening)", "value_witness(key, opening, value)", "same_witness(key, first, second)",
        "product_witness(key, first, second, third)", "form_witness(key, openings, factors, total)",
        "powers_witness(key, openings)", "exclusion_witness(key, opening, values)",
        "choice_witness(key, opening, values)", "known_openings(key, witness)",
        "value_openings(key, witness, value)", "same_openings(key, witness)", "product_openings(key, witness)",
        "form_openings(key, witness)", "powers_openings(key, witness)", "exclusion_openings(key, witness)",
        "choice_openings(key, witness, values)", "exclusion_relation(key, values, witness)",
    ),
    "ranges": (
        "range_weights(top)", "range_digits(top, value)", "range_claim(key, cover, top, digit_covers)",
        "range_witness(key, opening, top, blinds)", "range_openings(key, witness, top)",
        "offer_range(key, opening, top, blinds, tape, challenge)",
        "retell_range(key, cover, top, digit_covers, run, value)",
        "order_claim(key, first, second, top, first_digits, second_digits, gap_digits)",
        "order_witness(key, first, second, top, first_blinds, second_blinds, gap_blinds)",
        "order_openings(key, witness, top)",
    ),
    "polynomials": (
        "cover_coefficients(key, coefficients, blinds)", "cover_at(group, covers, point)",
        "point_claim(key, covers, point, value)", "meet_claim(key, first, second, point)",
        "degree_claim(key, covers, degree)", "deal(q, coefficients, blinds, many)",
        "share_fits(key, covers, share)", "join_shares(q, shares)", "retell_deal(key, covers, shares, secret)",
    ),
    "mixing": (
        "switch_places(many)", "mix_rows(key, row, settings, blinds)", "source_places(many, settings)",
        "settings_for(places)", "mix_claim(key, rows)", "mix_witness(settings, blinds)", "read_mix(witness)",
        "mixed_openings(q, openings, settings, blinds)", "retell_mix(key, rows, run, settings)",
    ),
    "notation": (
        "write_nested(value)", "read_nested(text)", "plain_statement(statement)", "digest(text, q)",
        "drawn_residues(seed, many, q)",
    ),
    "papers": (
        "challenge_for(q, statement, start, note)", "write_paper(group, statement, witness, tape, note)",
        "judge_paper(group, statement, note, text)", "count_papers(group, statement, note)",
        "forge_paper(group, statement, note)",
        "draw_from_papers(group, statement, first_note, first, second_note, second)",
    ),
    "ledger": (
        "payment_claim(key, top, sender_cover, amount_cover, amount_digits, rest_digits)",
        "make_payment(key, top, sender, receiver, opening, amount, secret, *, challenge)",
        "payment_openings(key, top, witness)",
        "retell_payment(key, top, sender_cover, payment, balance, amount)", "hold_ledger(key, top, steps)",
        "retell_ledger(ledger, amounts)", "ledger_relation(ledger, witnesses)", "write_journal(ledger)",
        "read_journal(key, top, text)",
    ),
    "vote": (
        "make_ballot(key, options, option, blind, tape, challenge)",
        "make_mix(key, row, settings, blinds, tape, challenge)", "hold_vote(key, options, ballots, mixes)",
        "retell_ballot(key, options, cover, run, option)", "retell_vote(vote, options)",
        "vote_relation(vote, openings, readings)",
    ),
    "passes": (
        "show_statement(key, body, shown, values, line)",
        "present(key, values, blind, turn, shown, tape, *, challenge, spot=None)",
        "read_show(key, request, witness)", "retell_show(key, request, values, blind)",
        "seal_statement(key, public, body, sealed)", "unturn(group, sealed, turn)",
    ),
    "auction": ("hold_auction(key, top, bids, concessions)", "retell_auction(auction, values)"),
}

METHODS = {
    ("groups", "Group"): (
        "power(self, element, exponent)", "inverse_of(self, element)", "log(self, base, element)",
        "combine(self, factors, exponents)", "has(self, value)",
        "carried(self, element, base, other, other_base)",
    ),
    ("groups", "PowerGroup"): ("__init__(self, modulus, order)", "multiply(self, first, second)"),
    ("groups", "TableGroup"): ("__init__(self, table)", "multiply(self, first, second)"),
    ("covers", "Key"): (
        "__init__(self, group, base, blind_base)", "cover(self, value, blind)",
        "opens(self, cover, value, blind)", "blind_for(self, cover, value)",
        "count_openings(self, cover, value)", "relation_from(self, first, second)",
    ),
    ("ledger", "Ledger"): (
        "__init__(self, key, top)", "issue(self, name, value, blind)", "post(self, payment, *, coin)",
        "cover_of(self, name)", "total_cover(self)", "audit(self, names, value, blind)", "__len__(self)",
        "__iter__(self)",
    ),
    ("vote", "Vote"): (
        "__init__(self, key, options)", "cast(self, name, cover, run, *, coin)", "mix(self, rows, run, *, coin)",
        "tell(self, openings)",
    ),
    ("passes", "PassKey"): ("__init__(self, group, mark, bases, blind_base)", "body(self, values, blind)"),
    ("passes", "Office"): (
        "__init__(self, key, secret)", "seal(self, request, tape, *, coin, challenge)",
        "admit(self, request, sealed, *, coin)",
    ),
    ("auction", "Auction"): (
        "__init__(self, key, top)", "place(self, name, cover, digit_covers, run, *, coin)",
        "claim(self, name, bid, blind)", "limit_of(self, name)",
        "concede(self, name, digit_covers, run, *, coin)",
    ),
    ("desk", "Desk"): ("__init__(self, key, top)", "line(self, text)", "lines(self, text)", "paper(self)"),
}

PROPERTIES = {
    ("covers", "Key"): ("relation", "hiding"),
    ("ledger", "Ledger"): ("names", "issued"),
    ("vote", "Vote"): ("stage", "tally", "board"),
    ("passes", "Office"): ("public",),
    ("auction", "Auction"): ("winner", "board"),
    ("desk", "Desk"): ("ledger",),
}


def module(name):
    return importlib.import_module("hushpapers." + name)


class Interface(unittest.TestCase):
    def check(self, function, written, name):
        self.assertEqual(function.__name__ + str(inspect.signature(function)), written)
        self.assertEqual(function.__module__, "hushpapers." + name)

    def test_functions(self):
        for name, lines in FUNCTIONS.items():
            for written in lines:
                with self.subTest(written):
                    self.check(getattr(module(name), written.split("(")[0]), written, name)

    def test_methods(self):
        for (name, class_name), lines in METHODS.items():
            one = getattr(module(name), class_name)
            self.assertEqual(one.__module__, "hushpapers." + name)
            for written in lines:
                with self.subTest(written):
                    self.check(vars(one)[written.split("(")[0]], written, name)

    def test_what_yields(self):
        self.assertTrue(inspect.isgeneratorfunction(module("residues").all_rows))
        self.assertTrue(inspect.isgeneratorfunction(module("counting").mimic_runs))

    def test_attributes(self):
        for group, names in (
            (PowerGroup(11, 5), ("order", "unit", "members", "modulus")),
            (table_group((2, 0, 1)), ("order", "unit", "members", "table")),
        ):
            for name in names:
                self.assertIn(name, vars(group))
        key = Key(PowerGroup(11, 5), 3, 9)
        for one, names in (
            (key, ("group", "base", "blind_base")),
            (Ledger(key, 2), ("key", "top")),
            (Vote(key, 2), ("key", "options")),
            (PassKey(key.group, 3, (4,), 9), ("group", "mark", "bases", "blind_base")),
            (Office(PassKey(key.group, 3, (), 9), 2), ("key", "secret")),
            (Auction(key, 2), ("key", "top")),
            (Desk(key, 2), ("key", "top")),
        ):
            for name in names:
                self.assertIn(name, vars(one))

    def test_replayed(self):
        method = vars(module("desk").Desk)["replayed"]
        self.assertIsInstance(method, classmethod)
        self.check(method.__func__, "replayed(cls, key, top, paper)", "desk")

    def test_properties(self):
        for (name, class_name), names in PROPERTIES.items():
            one = vars(getattr(module(name), class_name))
            for attribute in names:
                self.assertIsInstance(one[attribute], property)
                self.assertIsNone(one[attribute].fset)

    def test_arguments_by_name(self):
        key = Key(group=PowerGroup(modulus=11, order=5), base=3, blind_base=9)
        ledger = Ledger(key=key, top=2)
        ledger.issue(name="a", value=2, blind=1)
        ledger.issue(name="b", value=0, blind=0)
        payment = make_payment(
            key=key, top=2, sender="a", receiver="b", opening=(2, 1), amount=1,
            secret=(1, (0, 1), (2, 3), (0,) * 14), challenge=4,
        )
        with self.assertRaises(TypeError):
            ledger.post(payment, 4)
        with self.assertRaises(TypeError):
            make_payment(key, 2, "a", "b", (2, 1), 1, (1, (0, 1), (2, 3), (0,) * 14), 4)
        ledger.post(payment=payment, coin=4)
        self.assertEqual(len(ledger), 3)
        self.assertEqual([record[0] for record in ledger], ["issue", "issue", "pay"])
        self.assertIs(ledger.audit(names=("a", "b"), value=2, blind=1), True)

    def test_arguments_by_name_of_systems(self):
        key = Key(PowerGroup(11, 5), 3, 9)
        vote = Vote(key=key, options=2)
        cover, run = make_ballot(key=key, options=2, option=1, blind=3, tape=(1, 2, 3), challenge=4)
        vote.cast(name="a", cover=cover, run=run, coin=4)
        rows, run = make_mix(key=key, row=(cover,), settings=(), blinds=(), tape=(), challenge=2)
        vote.mix(rows=rows, run=run, coin=2)
        vote.tell(openings=((1, 3),))
        self.assertEqual(vote.tally, (0, 1))
        pass_key = PassKey(group=key.group, mark=3, bases=(4, 5, 9), blind_base=9)
        request, _ = present(
            key=pass_key, values=(2, 4, 3), blind=1, turn=2, shown=(2,), tape=(0, 1, 2, 3), spot=1, challenge=4
        )
        office = Office(key=pass_key, secret=3)
        sealed, _ = office.seal(request=request, tape=(1,), challenge=2, coin=4)
        self.assertEqual(office.admit(request=request, sealed=sealed, coin=4), ())
        auction = Auction(key=key, top=0)
        digit_covers, run = offer_range(key, (0, 2), 0, (), (1,), 3)
        auction.place(name="a", cover=key.cover(0, 2), digit_covers=digit_covers, run=run, coin=3)
        auction.claim(name="a", bid=0, blind=2)
        self.assertEqual(auction.limit_of(name="a"), 0)
        desk = Desk.replayed(key=key, top=2, paper="issue a 1 1")
        self.assertEqual(desk.line(text="audit a"), "1 1")
        self.assertEqual(desk.lines(text="undo"), ("undone",))

    def test_keywords_that_must_be_named(self):
        for name, class_name, method in (
            ("ledger", "Ledger", "post"), ("vote", "Vote", "cast"), ("vote", "Vote", "mix"),
            ("passes", "Office", "seal"), ("passes", "Office", "admit"), ("auction", "Auction", "place"),
            ("auction", "Auction", "concede"),
        ):
            function = vars(getattr(module(name), class_name))[method]
            coin = inspect.signature(function).parameters["coin"]
            self.assertEqual(coin.kind, inspect.Parameter.KEYWORD_ONLY)
