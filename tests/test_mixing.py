import itertools
import random
import unittest

from hushpapers.covers import Key
from hushpapers.errors import BadStatement, BadTape, NotAccepted, OpenKey
from hushpapers.groups import PowerGroup
from hushpapers.mixing import (
    mix_claim, mix_rows, mix_witness, mixed_openings, read_mix, retell_mix, settings_for,
    source_places, switch_places,
)
from hushpapers.runs import accepts, mimic, run_of
from hushpapers.statements import fits, leaf_count, tape_length
from tests.key_samples import some_keys
from tests.plain_runs import random_witness, with_part
from tests.plain_statements import all_witnesses
from tests.samples import plain_power, raised_by, rows_of, table_group

G3 = PowerGroup(7, 3)
G5 = PowerGroup(11, 5)
G127 = PowerGroup(509, 127)
KEY = Key(G5, 3, 9)
OPEN = Key(G5, 3, 1)
KEY_3 = Key(G3, 2, 4)
TABLE_KEY = Key(table_group((2, 0, 1)), 0, 1)


def count_switches(many):
    return many * (many - 1) // 2


def plain_places(many):
    """Return the switches of [44], each as a layer and its lower place, in order."""
    found = []
    for layer in range(many):
        for j in range(many):
            if j + 1 < many and j % 2 == layer % 2:
                found.append((layer, j))
    return found


def plain_mix(row, settings, blinds, blinded):
    """Return all rows of [44], where blinded(item, blind) is an item with one more blind."""
    many = len(row)
    rows = [list(row)]
    switches = dict(zip(plain_places(many), zip(settings, blinds, strict=True), strict=True))
    for layer in range(many):
        new = list(rows[-1])
        for j in range(many - 1):
            if (layer, j) in switches:
                setting, (s, t) = switches[layer, j]
                a, b = rows[-1][j], rows[-1][j + 1]
                new[j] = blinded(b if setting == 1 else a, s)
                new[j + 1] = blinded(a if setting == 1 else b, t)
        rows.append(new)
    return tuple(tuple(row) for row in rows)


def random_mix(numbers, q, many):
    switches = count_switches(many)
    settings = tuple(numbers.randrange(2) for _ in range(switches))
    return settings, tuple((numbers.randrange(q), numbers.randrange(q)) for _ in range(switches))


def random_row(numbers, group, many):
    return tuple(numbers.choice(group.members) for _ in range(many))


def random_tape(numbers, group, statement):
    return tuple(numbers.randrange(group.order) for _ in range(tape_length(statement)))


class Switches(unittest.TestCase):
    def test_examples(self):
        self.assertEqual(switch_places(0), ())
        self.assertEqual(switch_places(1), ((),))
        self.assertEqual(switch_places(2), ((0,), ()))
        self.assertEqual(switch_places(3), ((0,), (1,), (0,)))
        self.assertEqual(switch_places(4), ((0, 2), (1,), (0, 2), (1,)))
        self.assertEqual(switch_places(5), ((0, 2), (1, 3), (0, 2), (1, 3), (0, 2)))

    def test_all(self):
        for many in range(13):
            layers = switch_places(many)
            self.assertEqual(len(layers), many)
            found = [(layer, j) for layer, places in enumerate(layers) for j in places]
            self.assertEqual(found, plain_places(many))
            self.assertEqual(len(found), count_switches(many))


class Rows(unittest.TestCase):
    def test_example(self):
        # 3 and 4 change places and get 9 and 9 ** 2 = 4; then 4 keeps its place.
        self.assertEqual(mix_rows(KEY, (3, 4), (1,), ((1, 2),)), ((3, 4), (3, 1), (3, 1)))
        self.assertEqual(mix_rows(KEY, (3, 4), (0,), ((1, 2),)), ((3, 4), (5, 5), (5, 5)))
        self.assertEqual(mix_rows(KEY, (), (), ()), ((),))
        self.assertEqual(mix_rows(KEY, (4,), (), ()), ((4,), (4,)))

    def test_as_the_document_says(self):
        numbers = random.Random(1)
        for key in (*some_keys(), Key(G127, G127.members[3], G127.members[40])):
            group, q = key.group, key.group.order

            def blinded(cover, blind, key=key):
                return key.group.multiply(cover, plain_power(key.group, key.blind_base, blind))

            for many in (0, 1, 2, 3, 4, 5, 8, 9):
                row = random_row(numbers, group, many)
                settings, blinds = random_mix(numbers, q, many)
                rows = mix_rows(key, row, settings, blinds)
                self.assertEqual(rows, plain_mix(row, settings, blinds, blinded))
                self.assertEqual([len(one) for one in rows], [many] * (many + 1))

    def test_openings(self):
        numbers = random.Random(2)
        for key in some_keys():
            q = key.group.order

            def blinded(opening, blind, q=q):
                return opening[0], (opening[1] + blind) % q

            for many in (0, 1, 2, 3, 4, 5, 8):
                openings = tuple((numbers.randrange(q), numbers.randrange(q)) for _ in range(many))
                row = tuple(key.cover(*opening) for opening in openings)
                settings, blinds = random_mix(numbers, q, many)
                rows = mix_rows(key, row, settings, blinds)
                found = mixed_openings(q, openings, settings, blinds)
                self.assertEqual(tuple(key.cover(*opening) for opening in found), rows[-1])
                self.assertEqual(found, plain_mix(openings, settings, blinds, blinded)[-1])
                sources = source_places(many, settings)
                self.assertEqual([value for value, _ in found], [openings[at][0] for at in sources])

    def test_bad_tape(self):
        blinds = ((1, 2), (3, 4), (0, 0))
        row = (3, 4, 5)
        self.assertIsNone(raised_by(mix_rows, KEY, row, (0, 1, 0), blinds))
        for settings in ((), (0, 1), (0, 1, 0, 0), (0, 2, 0), (0, 1, -1), (10 ** 59, 0, 0)):
            self.assertEqual(raised_by(mix_rows, KEY, row, settings, blinds), BadTape)
            self.assertEqual(raised_by(source_places, 3, settings), BadTape)
        for wrong in ((), blinds[:2], (*blinds, (0, 0))):
            self.assertEqual(raised_by(mix_rows, KEY, row, (0, 1, 0), wrong), BadTape)
        for at, side in itertools.product(range(3), range(2)):
            for number in (5, -1, 10 ** 59, -10 ** 59):
                wrong = with_part(blinds, (at, side), number)
                self.assertEqual(raised_by(mix_rows, KEY, row, (0, 1, 0), wrong), BadTape)
        for many in (0, 1):
            row = (3,) * many
            self.assertEqual(raised_by(mix_rows, KEY, row, (0,), ()), BadTape)
            self.assertEqual(raised_by(mix_rows, KEY, row, (), ((0, 0),)), BadTape)
            self.assertEqual(raised_by(source_places, many, (0,)), BadTape)


class Orders(unittest.TestCase):
    def test_examples(self):
        self.assertEqual(source_places(3, (0, 1, 1)), (2, 0, 1))
        self.assertEqual(settings_for((2, 0, 1)), (0, 1, 1))
        self.assertEqual(settings_for((2, 1, 0)), (1, 1, 1))
        self.assertEqual(settings_for((1, 2, 0)), (1, 1, 0))
        self.assertEqual(settings_for((1, 0)), (1,))
        self.assertEqual(settings_for((0,)), ())
        self.assertEqual(settings_for(()), ())
        self.assertEqual(source_places(0, ()), ())
        self.assertEqual(source_places(1, ()), (0,))

    def test_undo_each_other(self):
        for many in range(6):
            reached = set()
            for places in itertools.permutations(range(many)):
                settings = settings_for(places)
                self.assertEqual(len(settings), count_switches(many))
                self.assertEqual(source_places(many, settings), places)
                reached.add(settings)
            for settings in rows_of(2, count_switches(many)):
                places = source_places(many, settings)
                self.assertEqual(sorted(places), list(range(many)))
                if settings in reached:
                    self.assertEqual(settings_for(places), settings)

    def test_many_covers(self):
        numbers = random.Random(3)
        for many in (6, 7, 8, 11):
            for _ in range(40):
                places = tuple(numbers.sample(range(many), many))
                self.assertEqual(source_places(many, settings_for(places)), places)
            self.assertEqual(settings_for(tuple(range(many))), (0,) * count_switches(many))
            self.assertEqual(settings_for(tuple(range(many))[::-1]), (1,) * count_switches(many))

    def test_sources_follow_the_covers(self):
        # With blinds of 0 and different covers the last row shows the order.
        numbers = random.Random(4)
        for many in range(7):
            row = G127.members[:many]
            key = Key(G127, G127.members[3], G127.members[5])
            settings, _ = random_mix(numbers, 127, many)
            rows = mix_rows(key, row, settings, ((0, 0),) * count_switches(many))
            self.assertEqual(rows[-1], tuple(row[at] for at in source_places(many, settings)))

    def test_bad_statement(self):
        for places in (
            (1,), (-1,), (0, 0), (1, 1), (1, 2), (0, 2), (-1, 0), (0, 1, 3), (2, 1, 1), (0, 1, 2, 10 ** 59),
        ):
            self.assertEqual(raised_by(settings_for, places), BadStatement)


class Claims(unittest.TestCase):
    def test_tuples(self):
        self.assertEqual(mix_claim(KEY, ((),)), ("some", 0, ()))
        self.assertEqual(mix_claim(KEY, ((4,), (4,))), ("some", 0, ()))
        matrix = ((9, 1), (1, 9))
        kid = ("some", 1, (("rows", 2, matrix, (4, 3)), ("rows", 2, matrix, (3, 4))))
        # Before the switch 3 and 4, behind it 1 and 1: 1 / 3 is 4, 1 / 4 is 3.
        self.assertEqual(mix_claim(KEY, ((3, 4), (1, 1), (1, 1))), ("some", 1, (kid,)))

    def test_as_the_document_says(self):
        numbers = random.Random(5)
        for key in some_keys():
            group, q, h, unit = key.group, key.group.order, key.blind_base, key.group.unit

            def over(new, old, group=group):
                return group.multiply(new, plain_power(group, old, group.order - 1))

            for many in (0, 1, 2, 3, 4, 8):
                rows = mix_rows(key, random_row(numbers, group, many), *random_mix(numbers, q, many))
                kids = []
                for layer, j in plain_places(many):
                    (a, b), (c, d) = rows[layer][j:j + 2], rows[layer + 1][j:j + 2]
                    kids.append(("some", 1, tuple(
                        ("rows", 2, ((h, unit), (unit, h)), targets)
                        for targets in ((over(c, a), over(d, b)), (over(c, b), over(d, a)))
                    )))
                self.assertEqual(mix_claim(key, rows), ("some", len(kids), tuple(kids)))

    def test_eight_and_nine(self):
        numbers = random.Random(6)
        rows = mix_rows(KEY, (3,) * 8, *random_mix(numbers, 5, 8))
        self.assertEqual(leaf_count(mix_claim(KEY, rows)), 56)
        rows = mix_rows(KEY, (3,) * 9, *random_mix(numbers, 5, 9))
        self.assertEqual(raised_by(mix_claim, KEY, rows), BadStatement)

    def test_bad_statement(self):
        rows = mix_rows(KEY, (3, 4, 5), (0, 1, 0), ((1, 2), (3, 4), (0, 3)))
        self.assertIsNone(raised_by(mix_claim, KEY, rows))
        wrong = [(), 0, 3, ((3,),), ((), ()), (3,), (3, 3), rows[:3], rows[1:], (*rows, rows[3])]
        wrong += [list(rows), (list(rows[0]), *rows[1:])]
        for at in range(4):
            for row in ((), rows[at][:2], (*rows[at], 1), (2, 4, 5), (0, 4, 5), ((3,), 4, 5), (3, 4, ()), 3):
                wrong.append((*rows[:at], row, *rows[at + 1:]))
        for one in wrong:
            self.assertEqual(raised_by(mix_claim, KEY, one), BadStatement)

    def test_a_place_without_a_switch(self):
        numbers = random.Random(7)
        for many in (1, 2, 3, 4, 5, 8):
            rows = mix_rows(KEY, random_row(numbers, G5, many), *random_mix(numbers, 5, many))
            free = set(plain_places(many)) | {(layer, j + 1) for layer, j in plain_places(many)}
            for layer in range(many):
                for place in range(many):
                    if (layer, place) not in free:
                        # The changed place is kept in all layers but one.
                        changed = list(rows)
                        changed[layer + 1] = with_part(
                            rows[layer + 1], (place,), G5.multiply(rows[layer + 1][place], 3)
                        )
                        self.assertEqual(raised_by(mix_claim, KEY, tuple(changed)), BadStatement)


class Witnesses(unittest.TestCase):
    def test_tuples(self):
        witness = (((1, 2), None), (None, (3, 4)), ((0, 0), None))
        self.assertEqual(mix_witness((0, 1, 0), ((1, 2), (3, 4), (0, 0))), witness)
        self.assertEqual(read_mix(witness), ((0, 1, 0), ((1, 2), (3, 4), (0, 0))))
        self.assertEqual(mix_witness((), ()), ())
        self.assertEqual(read_mix(()), ((), ()))
        # A switch with both items is straight.
        self.assertEqual(read_mix((((1, 2), (3, 4)), (None, (3, 0)))), ((0, 1), ((1, 2), (3, 0))))

    def test_fit_and_run(self):
        numbers = random.Random(8)
        for key in some_keys():
            for many in (0, 1, 2, 3, 4):
                settings, blinds = random_mix(numbers, key.group.order, many)
                rows = mix_rows(key, random_row(numbers, key.group, many), settings, blinds)
                claim = mix_claim(key, rows)
                witness = mix_witness(settings, blinds)
                self.assertTrue(fits(key.group, claim, witness))
                self.assertEqual(read_mix(witness), (settings, blinds))
                run = run_of(key.group, claim, witness, random_tape(numbers, key.group, claim), 2)
                self.assertTrue(accepts(key.group, claim, run))

    def test_every_witness_gives_the_rows(self):
        numbers = random.Random(9)
        for key in (KEY_3, TABLE_KEY, Key(G3, 2, 1), KEY, OPEN):
            for many in (0, 1, 2, 3):
                settings, blinds = random_mix(numbers, key.group.order, many)
                row = random_row(numbers, key.group, many)
                rows = mix_rows(key, row, settings, blinds)
                claim = mix_claim(key, rows)
                if many < 3:
                    witnesses = all_witnesses(key.group, claim)
                else:
                    witnesses = [random_witness(numbers, key.group, claim) for _ in range(30)]
                self.assertGreater(len(witnesses), 0)
                for witness in witnesses:
                    found = read_mix(witness)
                    self.assertEqual(mix_rows(key, row, *found), rows)


class Retelling(unittest.TestCase):
    def test_all_settings_of_three_covers(self):
        numbers = random.Random(10)
        for key in some_keys():
            if not key.hiding:
                continue
            for many in (0, 1, 2, 3):
                row = random_row(numbers, key.group, many)
                settings, blinds = random_mix(numbers, key.group.order, many)
                rows = mix_rows(key, row, settings, blinds)
                claim = mix_claim(key, rows)
                tape = random_tape(numbers, key.group, claim)
                run = run_of(key.group, claim, mix_witness(settings, blinds), tape, 1)
                self.assertEqual(retell_mix(key, rows, run, settings), (blinds, tape))
                mimicked = mimic(key.group, claim, 2, tape)
                for others in rows_of(2, count_switches(many)):
                    for told in (run, mimicked):
                        new_blinds, new_tape = retell_mix(key, rows, told, others)
                        self.assertEqual(mix_rows(key, row, others, new_blinds), rows)
                        witness = mix_witness(others, new_blinds)
                        again = run_of(key.group, claim, witness, new_tape, told[1])
                        self.assertEqual(again, told)

    def test_eight_covers(self):
        numbers = random.Random(11)
        settings, blinds = random_mix(numbers, 5, 8)
        rows = mix_rows(KEY, random_row(numbers, G5, 8), settings, blinds)
        claim = mix_claim(KEY, rows)
        tape = random_tape(numbers, G5, claim)
        run = run_of(G5, claim, mix_witness(settings, blinds), tape, 3)
        self.assertEqual(retell_mix(KEY, rows, run, settings), (blinds, tape))
        others = settings_for((3, 1, 7, 5, 0, 2, 6, 4))
        new_blinds, new_tape = retell_mix(KEY, rows, run, others)
        self.assertEqual(mix_rows(KEY, rows[0], others, new_blinds), rows)
        self.assertEqual(run_of(G5, claim, mix_witness(others, new_blinds), new_tape, 3), run)

    def test_every_order_gives_every_mix_equally_often(self):
        for key in (KEY_3, TABLE_KEY):
            row = key.group.members[:2]
            found = []
            for setting in (0, 1):
                told = {}
                for s, t, *tape in rows_of(3, 7):
                    rows = mix_rows(key, row, (setting,), ((s, t),))
                    witness = mix_witness((setting,), ((s, t),))
                    run = run_of(key.group, mix_claim(key, rows), witness, tuple(tape), 2)
                    told[rows, run] = told.get((rows, run), 0) + 1
                found.append(told)
            self.assertEqual(found[0], found[1])
            self.assertEqual(set(found[0].values()), {1})

    def test_errors_in_their_order(self):
        numbers = random.Random(12)
        settings, blinds = (0, 1, 0), ((1, 2), (3, 4), (0, 3))
        rows = mix_rows(KEY, (3, 4, 5), settings, blinds)
        claim = mix_claim(KEY, rows)
        run = run_of(G5, claim, mix_witness(settings, blinds), random_tape(numbers, G5, claim), 3)
        bad_rows = ((), rows[1:], with_part(rows, (1, 2), 1), with_part(rows, (0, 0), 2))
        bad_settings = ((), (0, 1), (0, 1, 0, 0), (0, 2, 0), (-1, 0, 0))
        bad_runs = (
            with_part(run, (1,), 2), with_part(run, (1,), 5), with_part(run, (0, 0, 0, 0), 2),
            with_part(run, (2, 0, 1), (run[2][0][1] + 1) % 5), ((), 3, ()),
        )
        self.assertIsNone(raised_by(retell_mix, KEY, rows, run, settings))
        for one_rows, one_run, one in itertools.product(
            (rows, *bad_rows), (run, *bad_runs), (settings, (1, 1, 1), *bad_settings)
        ):
            expected = None
            if one_run in bad_runs:
                expected = NotAccepted
            if one in bad_settings:
                expected = BadTape
            if one_rows in bad_rows:
                expected = BadStatement
            self.assertEqual(raised_by(retell_mix, KEY, one_rows, one_run, one), expected)
            self.assertEqual(raised_by(retell_mix, OPEN, one_rows, one_run, one), OpenKey)
