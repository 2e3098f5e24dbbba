import itertools
import random
import unittest

from hushpapers.errors import (
    BadChallenge, BadKey, BadStatement, BadTape, NoInverse, NotAccepted, NoWitness, UnitPass,
)
from hushpapers.passes import PassKey, present, read_show, retell_show, show_statement
from hushpapers.runs import accepts, mimic, run_of
from hushpapers.statements import fits
from tests.pass_samples import (
    G3, G5, G127, KEY, KEYS, T5, can_have_line, plain_body, plain_leaf, random_pass, random_shown,
    random_tape,
)
from tests.plain_runs import with_part
from tests.plain_statements import all_witnesses
from tests.samples import plain_power, raised_by, rows_of


def all_shown(key):
    places = range(len(key.bases))
    return [shown for many in range(len(key.bases) + 1) for shown in itertools.combinations(places, many)]


class Keys(unittest.TestCase):
    def test_attributes(self):
        key = PassKey(G5, 3, (1, 4, 4), 9)
        self.assertEqual((key.group, key.mark, key.bases, key.blind_base), (G5, 3, (1, 4, 4), 9))
        self.assertEqual(PassKey(G5, 3, (), 3).bases, ())
        self.assertEqual(PassKey(T5, 4, (3, 0), 4).mark, 4)

    def test_bad_key(self):
        for wrong in (0, 2, 11, -1, 10 ** 59):
            self.assertEqual(raised_by(PassKey, G5, wrong, (4, 5), 9), BadKey)
            self.assertEqual(raised_by(PassKey, G5, 3, (4, 5), wrong), BadKey)
            for bases in ((wrong,), (wrong, 4), (4, 5, wrong)):
                self.assertEqual(raised_by(PassKey, G5, 3, bases, 9), BadKey)
        for unit, group, member in ((1, G5, 3), (3, T5, 0)):
            self.assertEqual(raised_by(PassKey, group, unit, (member,), member), BadKey)
            self.assertEqual(raised_by(PassKey, group, member, (member,), unit), BadKey)
            self.assertEqual(raised_by(PassKey, group, unit, (member,), unit), BadKey)
            self.assertIsNone(raised_by(PassKey, group, member, (unit,), member))

    def test_body(self):
        self.assertEqual(PassKey(G5, 3, (), 9).body((), 0), 3)
        self.assertEqual(PassKey(G5, 3, (4,), 9).body((2,), 1), 3 * 16 * 9 % 11)
        numbers = random.Random(1)
        for key in KEYS:
            for _ in range(10):
                values = tuple(numbers.randrange(key.group.order) for _ in key.bases)
                blind = numbers.randrange(key.group.order)
                self.assertEqual(key.body(values, blind), plain_body(key, values, blind))


class Statements(unittest.TestCase):
    def test_examples(self):
        # The inverses of 4, 5 and 9 are 3, 9 and 5.
        self.assertEqual(show_statement(KEY, 5, (), (), ()), ("rows", 5, ((5, 3, 9, 5, 5),), (3,)))
        self.assertEqual(show_statement(KEY, 5, (2,), (2,), (3, 4)), (
            "rows", 4, ((5, 3, 9, 5), (1, 5, 3, 1)), (3 * 81 % 11, 4),
        ))
        self.assertEqual(show_statement(KEY, 5, (0, 1, 2), (1, 0, 1), ()), ("rows", 2, ((5, 5),), (9,)))
        self.assertEqual(show_statement(PassKey(G5, 3, (), 9), 1, (), (), ()), ("rows", 2, ((1, 5),), (3,)))

    def test_as_the_document_says(self):
        numbers = random.Random(2)
        lines = 0
        for key in KEYS:
            q = key.group.order
            for shown in all_shown(key):
                body = numbers.choice(key.group.members)
                values = tuple(numbers.randrange(q) for _ in shown)
                expected = plain_leaf(key, body, shown, values, ())
                self.assertEqual(show_statement(key, body, shown, values, ()), expected)
                line = (numbers.randrange(q), numbers.randrange(q))
                if can_have_line(key, shown):
                    expected = plain_leaf(key, body, shown, values, line)
                    self.assertEqual(show_statement(key, body, shown, values, line), expected)
                    lines += 1
                else:
                    self.assertEqual(raised_by(show_statement, key, body, shown, values, line), BadStatement)
        self.assertGreater(lines, 8)

    def test_many_hidden_places(self):
        numbers = random.Random(3)
        bases = tuple(numbers.choice(G127.members) for _ in range(66))
        for many, shown, right in (
            (62, (), True), (63, (), False), (63, (62,), True), (64, (0, 63), True), (66, (1, 2, 3), False),
            (66, (1, 2, 3, 65), True), (66, tuple(range(66)), True),
        ):
            key = PassKey(G127, G127.members[1], bases[:many], G127.members[2])
            values = tuple(numbers.randrange(127) for _ in shown)
            call = (show_statement, key, 1, shown, values, ())
            self.assertEqual(raised_by(*call), None if right else BadStatement)
            if right:
                self.assertEqual(show_statement(*call[1:]), plain_leaf(key, 1, shown, values, ()))
        key = PassKey(G127, G127.members[1], bases[:62], G127.members[2])
        self.assertEqual(show_statement(key, 1, (), (), (5, 6)), plain_leaf(key, 1, (), (), (5, 6)))

    def test_bad_statement(self):
        for shown, values in (
            ((0, 0), (1, 1)), ((1, 0), (1, 1)), ((0, 2, 1), (1, 1, 1)), ((0, 1, 1), (1, 1, 1)), ((3,), (1,)),
            ((-1,), (1,)), ((0, 3), (1, 1)), ((-1, 0), (1, 1)), ((10 ** 59,), (1,)), ((0,), ()), ((0,), (1, 1)),
            ((), (1,)), ((0, 1), (1,)), ((0,), (5,)), ((0,), (-1,)), ((0, 2), (1, 10 ** 59)), ((2, 0), (1, 1)),
        ):
            for line in ((), (1, 2)):
                self.assertEqual(raised_by(show_statement, KEY, 5, shown, values, line), BadStatement)
        for line in ((5, 0), (0, 5), (-1, 0), (0, -1), (10 ** 59, 0)):
            self.assertEqual(raised_by(show_statement, KEY, 5, (), (), line), BadStatement)
        for line in ((0, 0), (4, 4), (0, 4)):
            self.assertIsNone(raised_by(show_statement, KEY, 5, (2,), (4,), line))
        for body in (0, 2, 11, -1, 10 ** 59):
            self.assertEqual(raised_by(show_statement, KEY, body, (), (), ()), BadStatement)
        for shown in ((0,), (1,), (0, 1), (0, 2), (1, 2), (0, 1, 2)):
            values = (1,) * len(shown)
            self.assertEqual(raised_by(show_statement, KEY, 5, shown, values, (1, 2)), BadStatement)
            self.assertIsNone(raised_by(show_statement, KEY, 5, shown, values, ()))
        for bases in ((), (4,)):
            key = PassKey(G5, 3, bases, 9)
            self.assertEqual(raised_by(show_statement, key, 5, (), (), (1, 2)), BadStatement)
        self.assertIsNone(raised_by(show_statement, PassKey(G5, 3, (4, 4), 9), 5, (), (), (1, 2)))


class Presenting(unittest.TestCase):
    def test_as_the_document_says(self):
        numbers = random.Random(4)
        for key in KEYS:
            group, q = key.group, key.group.order
            for shown, turn in itertools.product(all_shown(key), range(1, q)):
                values, blind = random_pass(numbers, key)
                tape, challenge = random_tape(numbers, key, shown), numbers.randrange(q)
                for spot in (None, 0, q - 1) if can_have_line(key, shown) else (None,):
                    request, witness = present(
                        key, values, blind, turn, shown, tape, challenge=challenge, spot=spot
                    )
                    body = plain_power(group, plain_body(key, values, blind), turn)
                    told = tuple(values[place] for place in shown)
                    line = () if spot is None else (spot, (values[0] * spot + values[1]) % q)
                    hidden = tuple(values[place] for place in range(len(values)) if place not in shown)
                    self.assertEqual(request[:4], (body, shown, told, line))
                    self.assertEqual(witness[0] * turn % q, 1)
                    self.assertEqual(witness[1:], (*hidden, blind))
                    statement = plain_leaf(key, body, shown, told, line)
                    self.assertTrue(fits(group, statement, witness))
                    self.assertEqual(request[4], run_of(group, statement, witness, tape, challenge))
                    self.assertEqual(read_show(key, request, witness), (values, blind, turn))

    def test_without_a_spot(self):
        request, _ = present(KEY, (1, 2, 3), 0, 2, (), (0, 1, 2, 3, 4), challenge=1)
        self.assertEqual(request[3], ())
        other, _ = present(KEY, (1, 2, 3), 0, 2, (), (0, 1, 2, 3, 4), challenge=1, spot=None)
        self.assertEqual(request, other)

    def test_any_blind(self):
        told = present(KEY, (1, 2, 3), 2, 2, (1,), (0, 1, 2, 3), challenge=1)
        for blind in (7, -3, 5 * 10 ** 50 + 2):
            self.assertEqual(present(KEY, (1, 2, 3), blind, 2, (1,), (0, 1, 2, 3), challenge=1), told)
            self.assertEqual(retell_show(KEY, told[0], (1, 2, 3), blind), (2, (0, 1, 2, 3)))

    def test_errors_in_their_order(self):
        good = (1, 2, 3)
        self.assertNotEqual(plain_body(KEY, good, 0), 1)
        units = [(values, blind) for *values, blind in rows_of(5, 4) if plain_body(KEY, values, blind) == 1]
        unit_values, unit_blind = tuple(units[7][0]), units[7][1]
        shows = (
            ((), None, True), ((2,), None, True), ((0, 1), None, True), ((), 3, True), ((2,), 0, True),
            ((0,), 3, False), ((1, 2), 0, False), ((2, 2), None, False), ((2, 0), None, False), ((3,), None, False),
            ((-1,), None, False), ((), 5, False), ((), -1, False), ((2,), 10 ** 59, False),
        )
        for (values, blind), (shown, spot, right), turn, wrong, challenge in itertools.product(
            ((good, 0), (unit_values, unit_blind)), shows, (1, 4, 0, 5, -1, 6, 10 ** 59), (False, True), (0, 4, 5, -1)
        ):
            tape = (1,) * (5 - len(shown) + wrong)
            expected = None if 0 <= challenge < 5 else BadChallenge
            if wrong or not 1 <= turn < 5:
                expected = BadTape
            if not right:
                expected = BadStatement
            if values is unit_values:
                expected = UnitPass
            call = (present, KEY, values, blind, turn, shown, tape)
            self.assertEqual(raised_by(*call, challenge=challenge, spot=spot), expected)

    def test_tapes(self):
        for tape in ((), (0,) * 4, (0,) * 6, (0, 0, 0, 0, 5), (-1, 0, 0, 0, 0)):
            self.assertEqual(raised_by(present, KEY, (1, 2, 3), 0, 1, (), tape, challenge=0), BadTape)

    def test_no_lines_without_two_bases(self):
        for bases, values in (((), ()), ((4,), (2,))):
            key = PassKey(G5, 3, bases, 9)
            for turn in (1, 0):
                call = (present, key, values, 1, turn, (), (0,) * (2 + len(bases)))
                self.assertEqual(raised_by(*call, challenge=0, spot=0), BadStatement)

    def test_63_hidden_places(self):
        key = PassKey(G127, G127.members[1], (G127.members[5],) * 63, G127.members[2])
        call = (present, key, (1,) * 63, 4, 1)
        self.assertEqual(raised_by(*call, (), (0,) * 65, challenge=0), BadStatement)
        self.assertIsNone(raised_by(*call, (7,), (0,) * 64, challenge=0))


class Reading(unittest.TestCase):
    def test_every_witness(self):
        numbers = random.Random(5)
        zeros = others = 0
        for key in KEYS:
            if len(key.bases) > 3:
                continue
            group, q = key.group, key.group.order
            for body in {group.unit, group.generator, numbers.choice(group.members)}:
                shown = random_shown(numbers, key)
                told = tuple(numbers.randrange(q) for _ in shown)
                line = (1, numbers.randrange(q)) if can_have_line(key, shown) else ()
                request = (body, shown, told, line, ((), 0, ()))
                for witness in all_witnesses(group, show_statement(key, body, shown, told, line)):
                    if witness[0] == 0:
                        self.assertEqual(raised_by(read_show, key, request, witness), NoInverse)
                        zeros += 1
                        continue
                    values, blind, turn = read_show(key, request, witness)
                    self.assertEqual(plain_power(group, plain_body(key, values, blind), turn), body)
                    self.assertEqual(tuple(values[place] for place in shown), told)
                    self.assertEqual(turn * witness[0] % q, 1)
                    if line:
                        self.assertEqual((values[0] * line[0] + values[1]) % q, line[1])
                    others += 1
        self.assertGreater(zeros, 50)
        self.assertGreater(others, 50)


class Retelling(unittest.TestCase):
    def test_every_other_pass(self):
        numbers = random.Random(6)
        told = 0
        for key in KEYS:
            group, q = key.group, key.group.order
            if q ** len(key.bases) > 130:
                continue
            for _ in range(3):
                values, blind = random_pass(numbers, key)
                shown = random_shown(numbers, key)
                spot = numbers.randrange(q) if can_have_line(key, shown) else None
                turn, tape = numbers.randrange(1, q), random_tape(numbers, key, shown)
                request, _ = present(key, values, blind, turn, shown, tape, challenge=1, spot=spot)
                self.assertEqual(retell_show(key, request, values, blind), (turn, tape))
                for *others, other_blind in rows_of(q, len(key.bases) + 1):
                    others = tuple(others)
                    call = (retell_show, key, request, others, other_blind)
                    agree = all(others[place] == values[place] for place in shown)
                    if spot is not None:
                        agree = agree and (others[0] * spot + others[1]) % q == request[3][1]
                    if plain_body(key, others, other_blind) == group.unit:
                        self.assertEqual(raised_by(*call), UnitPass)
                    elif not agree:
                        self.assertEqual(raised_by(*call), NoWitness)
                    else:
                        new_turn, new_tape = retell_show(*call[1:])
                        again, _ = present(
                            key, others, other_blind, new_turn, shown, new_tape, challenge=1, spot=spot
                        )
                        self.assertEqual(again, request)
                        told += 1
        self.assertGreater(told, 150)

    def test_two_passes_give_every_request_equally_often(self):
        key = PassKey(G3, 2, (2, 4), 4)
        found = []
        for values, blind in (((1, 1), 0), ((0, 1), 1), ((2, 1), 0)):
            self.assertNotEqual(plain_body(key, values, blind), 1)
            requests = {}
            for turn in (1, 2):
                for tape in rows_of(3, 3):
                    request, _ = present(key, values, blind, turn, (1,), tape, challenge=2)
                    requests[request] = requests.get(request, 0) + 1
            found.append(requests)
        self.assertEqual(found[0], found[1])
        self.assertEqual(found[0], found[2])
        self.assertEqual(set(found[0].values()), {1})

    def test_errors_in_their_order(self):
        request, _ = present(KEY, (1, 2, 3), 0, 2, (2,), (1, 2, 3, 4), challenge=3, spot=2)
        units = [(values, blind) for *values, blind in rows_of(5, 4) if plain_body(KEY, values, blind) == 1]
        unit_pass = (tuple(units[3][0]), units[3][1])
        passes = [((1, 2, 3), 0, None), ((0, 4, 3), 2, None), ((1, 2, 2), 4, NoWitness), ((1, 3, 3), 4, NoWitness)]
        passes.append((*unit_pass, UnitPass))
        bad_statements = [
            with_part(request, (0,), 2), with_part(request, (1,), (3,)), with_part(request, (1,), ()),
            with_part(request, (1,), (0,)), with_part(request, (2,), (5,)), with_part(request, (3, 0), 5),
            with_part(request, (3, 1), -1),
        ]
        unit_body = mimic(G5, show_statement(KEY, 1, *request[1:4]), 3, (1, 2, 3, 4))
        bad_runs = [
            with_part(request, (4, 1), 2), with_part(request, (4, 2), ()), with_part(request, (4, 0, 0), 0),
            with_part(request, (4, 1), 5), (1, *request[1:4], request[4]), (1, *request[1:4], unit_body),
        ]
        self.assertTrue(accepts(G5, show_statement(KEY, 1, *request[1:4]), unit_body))
        for one, (values, blind, error) in itertools.product((request, *bad_statements, *bad_runs), passes):
            expected = None
            if one in bad_runs:
                expected = NotAccepted
            if error is NoWitness:
                expected = NoWitness
            if one in bad_statements:
                expected = BadStatement
            if error is UnitPass:
                expected = UnitPass
            self.assertEqual(raised_by(retell_show, KEY, one, values, blind), expected)
