import itertools
import random
import unittest

from hushpapers.errors import (
    BadChallenge, BadKey, BadTape, NoInverse, Refused, WrongCoin,
)
from hushpapers.passes import (
    Office, PassKey, present, seal_statement, show_statement, unturn,
)
from hushpapers.runs import accepts, mimic, run_of
from hushpapers.statements import holds, tape_length
from tests.pass_samples import (
    G3, G5, KEY, KEYS, T5, can_have_line, plain_body, random_pass, random_shown, random_tape,
)
from tests.plain_runs import with_part
from tests.samples import plain_power, raised_by, small_groups

# Values 0 and 1 of a line, and the serial.
PASS = ((2, 4, 3), 1)


def ask(key, values, blind, shown=(), spot=None, turn=2, challenge=3, seed=0):
    """Return the request of a pass."""
    tape = random_tape(random.Random(seed), key, shown)
    return present(key, values, blind, turn, shown, tape, challenge=challenge, spot=spot)[0]


def sealed_by(office, request):
    return plain_power(office.key.group, request[0], office.secret)


def refused_requests(request):
    """Return requests that are wrong, each with the challenge of the given one."""
    wrong = [
        with_part(request, (0,), 0), with_part(request, (0,), 2), with_part(request, (1,), (3,)),
        with_part(request, (1,), (-1,)), with_part(request, (1,), ()), with_part(request, (2,), ()),
        with_part(request, (2, 0), 5), with_part(request, (2, 0), (request[2][0] + 1) % 5),
        with_part(request, (4, 0), ()), with_part(request, (4, 2), ()), with_part(request, (4, 0, 0), 2),
        with_part(request, (4, 2, 0), (request[4][2][0] + 1) % 5),
    ]
    if request[3]:
        wrong += [with_part(request, (3, 0), 5), with_part(request, (3, 1), (request[3][1] + 1) % 5)]
        wrong.append(with_part(request, (1,), (1,)))
    # A unit as the body, with a run that is accepted.
    statement = show_statement(KEY, 1, *request[1:4])
    run = mimic(KEY.group, statement, request[4][1], (2,) * tape_length(statement))
    wrong.append((1, *request[1:4], run))
    return wrong


class Making(unittest.TestCase):
    def test_attributes(self):
        for key in KEYS:
            for secret in range(1, key.group.order):
                office = Office(key, secret)
                self.assertEqual((office.key, office.secret), (key, secret))
                self.assertEqual(office.public, plain_power(key.group, key.mark, secret))

    def test_bad_key(self):
        for key in KEYS:
            q = key.group.order
            for secret in (0, q, q + 1, -1, 1 - q, 10 ** 59, -10 ** 59):
                self.assertEqual(raised_by(Office, key, secret), BadKey)


class Statements(unittest.TestCase):
    def test_tuple(self):
        self.assertEqual(seal_statement(KEY, 5, 4, 9), ("rows", 1, ((3,), (4,)), (5, 9)))

    def test_when_it_holds(self):
        for key in KEYS[:6]:
            group = key.group
            for secret in range(1, group.order):
                public = plain_power(group, key.mark, secret)
                for body, sealed in itertools.product(group.members, repeat=2):
                    statement = seal_statement(key, public, body, sealed)
                    self.assertEqual(statement, ("rows", 1, ((key.mark,), (body,)), (public, sealed)))
                    self.assertIs(holds(group, statement), plain_power(group, body, secret) == sealed)


class Sealing(unittest.TestCase):
    def test_as_the_document_says(self):
        numbers = random.Random(1)
        for key in KEYS:
            group, q = key.group, key.group.order
            for secret in {1, q - 1, numbers.randrange(1, q)}:
                office = Office(key, secret)
                values, blind = random_pass(numbers, key)
                shown = random_shown(numbers, key)
                spot = 1 if can_have_line(key, shown) else None
                request = ask(key, values, blind, shown, spot, challenge=2)
                tape, challenge = (numbers.randrange(q),), numbers.randrange(q)
                sealed, run = office.seal(request, tape, coin=2, challenge=challenge)
                self.assertEqual(sealed, sealed_by(office, request))
                statement = seal_statement(key, office.public, request[0], sealed)
                self.assertEqual(run, run_of(group, statement, (secret,), tape, challenge))
                self.assertTrue(accepts(group, statement, run))

    def test_each_pair_of_errors_in_its_order(self):
        office = Office(KEY, 3)
        for spot in (None, 1):
            request = ask(KEY, *PASS, (2,), spot)
            for one, right, tape, challenge in itertools.product(
                (request, *refused_requests(request)), (True, False), ((4,), (), (1, 2), (5,), (-1,)),
                (0, 4, 5, -1, 10 ** 59)
            ):
                expected = None if 0 <= challenge < 5 else BadChallenge
                if tape != (4,):
                    expected = BadTape
                if one != request:
                    expected = Refused
                if not right:
                    expected = WrongCoin
                coin = 3 if right else 1
                call = (office.seal, one, tape)
                self.assertEqual(raised_by(*call, coin=coin, challenge=challenge), expected)

    def test_challenges_that_are_no_residues(self):
        # The coin is the challenge of the run, but no run with it is accepted.
        office = Office(KEY, 3)
        request = ask(KEY, *PASS, (2,))
        for challenge in (5, -1, 8, -2):
            changed = with_part(request, (4, 1), challenge)
            self.assertEqual(raised_by(office.seal, changed, (1,), coin=challenge, challenge=0), Refused)
            self.assertEqual(raised_by(office.seal, changed, (1,), coin=3, challenge=0), WrongCoin)
            self.assertEqual(raised_by(office.seal, request, (1,), coin=challenge, challenge=0), WrongCoin)

    def test_a_line_needs_no_serial_to_be_sealed(self):
        office = Office(KEY, 2)
        self.assertIsNone(raised_by(office.seal, ask(KEY, *PASS, (), 1), (1,), coin=3, challenge=0))


class Unturning(unittest.TestCase):
    def test_undoes_the_turn(self):
        numbers = random.Random(2)
        for key in KEYS:
            group, q = key.group, key.group.order
            office = Office(key, numbers.randrange(1, q))
            values, blind = random_pass(numbers, key)
            own = plain_power(group, plain_body(key, values, blind), office.secret)
            for turn, next_turn in itertools.product(range(1, q), repeat=2):
                request = ask(key, values, blind, turn=turn, challenge=0)
                sealed, _ = office.seal(request, (1,), coin=0, challenge=0)
                self.assertEqual(unturn(group, sealed, turn), own)
                self.assertEqual(unturn(group, sealed, turn + q), own)
                self.assertEqual(unturn(group, sealed, turn - 10 * q), own)
                following = ask(key, values, blind, turn=next_turn, challenge=1)
                new = group.power(unturn(group, sealed, turn), next_turn)
                self.assertEqual(office.admit(following, new, coin=1), ())

    def test_all_turns(self):
        for group in small_groups():
            for member in group.members:
                for turn in range(1, group.order):
                    found = unturn(group, member, turn)
                    self.assertEqual(plain_power(group, found, turn), member)

    def test_no_inverse(self):
        for group in (G3, G5, T5):
            q = group.order
            for turn in (0, q, -q, 10 * q, q ** 40):
                self.assertEqual(raised_by(unturn, group, group.members[1], turn), NoInverse)


class Admitting(unittest.TestCase):
    def test_without_a_line(self):
        office = Office(KEY, 3)
        for shown in ((), (0,), (2,), (0, 1, 2)):
            request = ask(KEY, *PASS, shown)
            for _ in range(3):
                self.assertEqual(office.admit(request, sealed_by(office, request), coin=3), ())

    def test_two_lines_name_the_holder(self):
        for key in (KEY, KEYS[4], KEYS[6], KEYS[7]):
            q = key.group.order
            numbers = random.Random(3)
            for first, second in itertools.permutations(range(q), 2):
                office = Office(key, 2)
                values, blind = random_pass(numbers, key)
                one = ask(key, values, blind, (2,), first, turn=1, challenge=0)
                other = ask(key, values, blind, (2,), second, turn=2, challenge=1)
                self.assertEqual(office.admit(one, sealed_by(office, one), coin=0), ())
                self.assertEqual(office.admit(other, sealed_by(office, other), coin=1), (values[0],))

    def test_the_first_line_is_kept(self):
        office = Office(KEY, 3)
        requests = [ask(KEY, *PASS, (2,), spot, challenge=spot, seed=spot) for spot in range(5)]

        def admitted(spot):
            request = requests[spot]
            return office.admit(request, sealed_by(office, request), coin=spot)

        self.assertEqual(admitted(1), ())
        for spot in (4, 0, 4, 2, 3, 0):
            self.assertEqual(admitted(spot), (2,))
        # The same spot again, the same request or another one.
        self.assertEqual(raised_by(admitted, 1), Refused)
        again = ask(KEY, *PASS, (2,), 1, turn=4, challenge=0)
        self.assertEqual(raised_by(office.admit, again, sealed_by(office, again), coin=0), Refused)
        self.assertEqual(admitted(4), (2,))

    def test_lines_of_two_passes_with_one_serial(self):
        office = Office(KEY, 3)
        first, second = ask(KEY, (2, 4, 3), 1, (2,), 1), ask(KEY, (1, 1, 3), 0, (2,), 4)
        self.assertEqual(office.admit(first, sealed_by(office, first), coin=3), ())
        # The worths are 2 * 1 + 4 and 1 * 4 + 1: (5 - 6) / (4 - 1) modulo 5 is 3.
        self.assertEqual((first[3], second[3]), ((1, 1), (4, 0)))
        self.assertEqual(office.admit(second, sealed_by(office, second), coin=3), (3,))
        # The same spot with another worth is refused, too.
        third = ask(KEY, (2, 0, 3), 1, (2,), 1)
        self.assertNotEqual(third[3], first[3])
        self.assertEqual(raised_by(office.admit, third, sealed_by(office, third), coin=3), Refused)

    def test_serials_are_apart(self):
        office = Office(KEY, 3)
        for serial in range(5):
            if plain_body(KEY, (2, 4, serial), 1) != 1:
                request = ask(KEY, (2, 4, serial), 1, (2,), 1)
                self.assertEqual(office.admit(request, sealed_by(office, request), coin=3), ())
        key = KEYS[1]
        office = Office(key, 3)
        # Among more shown places the serial is the value of place 2.
        one, other = ask(key, (2, 4, 3, 1), 1, (2, 3), 1), ask(key, (2, 4, 1, 3), 1, (2, 3), 2)
        self.assertEqual(office.admit(one, sealed_by(office, one), coin=3), ())
        self.assertEqual(office.admit(other, sealed_by(office, other), coin=3), ())
        third = ask(key, (2, 4, 3, 0), 1, (2, 3), 2)
        self.assertEqual(office.admit(third, sealed_by(office, third), coin=3), (2,))

    def test_a_line_without_a_serial(self):
        two = PassKey(G5, 3, (4, 5), 9)
        for key, values, shown in ((KEY, (2, 4, 3), ()), (two, (2, 4), ()), (KEYS[1], (2, 4, 3, 1), (3,))):
            office = Office(key, 3)
            request = ask(key, values, 1, shown, 1)
            self.assertEqual(raised_by(office.admit, request, sealed_by(office, request), coin=3), Refused)
            request = ask(key, values, 1, shown)
            self.assertEqual(office.admit(request, sealed_by(office, request), coin=3), ())

    def test_errors_in_their_order_and_nothing_kept(self):
        for spot in (None, 1):
            office = Office(KEY, 3)
            request = ask(KEY, *PASS, (2,), spot)
            sealed = sealed_by(office, request)
            for one, right, seal in itertools.product(
                (request, *refused_requests(request)), (True, False), (*KEY.group.members, 0, 2, 11, -1)
            ):
                if one == request and right and seal == sealed:
                    continue
                coin = 3 if right else 1
                expected = Refused if right else WrongCoin
                self.assertEqual(raised_by(office.admit, one, seal, coin=coin), expected)
            # No line was kept, so a line with another spot is the first one.
            other = ask(KEY, *PASS, (2,), 4)
            self.assertEqual(office.admit(other, sealed_by(office, other), coin=3), ())
            if spot is not None:
                self.assertEqual(office.admit(request, sealed, coin=3), (2,))

    def test_sealing_keeps_nothing(self):
        office = Office(KEY, 3)
        request = ask(KEY, *PASS, (2,), 1)
        for _ in range(2):
            self.assertIsNone(raised_by(office.seal, request, (1,), coin=3, challenge=0))
        self.assertEqual(office.admit(request, sealed_by(office, request), coin=3), ())
        self.assertIsNone(raised_by(office.seal, request, (1,), coin=3, challenge=0))
