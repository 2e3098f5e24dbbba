import itertools
import random
import unittest

from hushpapers.desk import Desk
from hushpapers.errors import (
    BadLine, BadStatement, DoubleName, LineError, NoWitness, Refused, UnknownName,
)
from hushpapers.ledger import Ledger, hold_ledger
from tests.ledger_samples import (
    ALL_KEYS, BIG, HIDING, KEY, KEY_3, OPEN, plain_weights, state_of as state_of_ledger,
)
from tests.samples import raised_by

START = ("issue ann 1 7", "issue bob 1 0", "issue c 0 3")
NO_NUMBERS = (
    "", "00", "01", "007", "1000000000", "12345678901", "-1", "+1", "1.0", "x", "1x", "x1", "\u0663", "\xb2",
    "1\u0663", "\uff11", "1\n", "\n", "\t1", "0x1", "1_0",
)
NO_NAMES = (
    "", "abcdefghi", "Ann", "aNn", "ANN", "a1", "1", "a-b", "\xe9", "an\n", "a\t", "a_b", "\u0430", "a.", "`", "{",
)


def plain_draw(seed, many, q):
    state, found = seed % 999983, []
    for _ in range(many):
        state = (state * 48271 + 12345) % 999983
        found.append(state // 7 % q)
    return tuple(found)


def plain_secret(key, top, seed):
    """Return the secret that the seed draws, cut in the order of [54]."""
    many = len(plain_weights(top))
    drawn = plain_draw(seed, 1 + 2 * many + 2 * (3 * many + 1), key.group.order)
    return drawn[0], drawn[1:1 + many], drawn[1 + many:1 + 2 * many], drawn[1 + 2 * many:]


def steps_of(key, top, lines):
    """Return the steps of lines of issue and pay."""
    q, steps = key.group.order, []
    for line in lines:
        words = line.split(" ")
        if words[0] == "issue":
            steps.append(("issue", words[1], int(words[2]), int(words[3]) % q))
        else:
            secret = plain_secret(key, top, int(words[4]))
            steps.append(("pay", words[1], words[2], int(words[3]), secret, int(words[5]) % q))
    return tuple(steps)


def openings_of(key, steps):
    q, openings = key.group.order, {}
    for step in steps:
        if step[0] == "issue":
            openings[step[1]] = step[2:]
        else:
            for name, sign in ((step[1], -1), (step[2], 1)):
                value, blind = openings[name]
                openings[name] = (value + sign * step[3], (blind + sign * step[4][0]) % q)
    return openings


def state_of(desk):
    """Return all that can be read of a desk."""
    audits = tuple(desk.line("audit " + name) for name in desk.ledger.names)
    return state_of_ledger(desk.ledger), audits, desk.paper(), desk.key, desk.top


def desk_with(*lines, key=KEY, top=2):
    desk = Desk(key, top)
    for line in lines:
        desk.line(line)
    return desk


def wrong_at(desk, text):
    try:
        desk.line(text)
    except BadLine as error:
        return error.at
    return None


def wrong_line(desk, text):
    try:
        desk.lines(text)
    except LineError as error:
        return error.number
    return None


def random_lines(numbers, top, names=("ann", "bob", "c", "abcdefgh"), payments=6):
    """Return lines of issue and pay, all of which can be done."""
    lines, balances, left = [], {}, top
    for name in names:
        value = left if name == names[-1] else numbers.randrange(left + 1)
        left -= value
        balances[name] = value
        lines.append(f"issue {name} {value} {numbers.choice((0, 3, 12, 999999999))}")
    for _ in range(payments):
        sender, receiver = numbers.sample(names, 2)
        amount = numbers.randrange(balances[sender] + 1)
        balances[sender] -= amount
        balances[receiver] += amount
        seed = numbers.choice((0, 1, 999999999, numbers.randrange(10 ** 9)))
        lines.append(f"pay {sender} {receiver} {amount} {seed} {numbers.choice((0, 4, 5, 77, 999999999))}")
    return lines


class Making(unittest.TestCase):
    def test_tops(self):
        for key, most in ((KEY, 2), (OPEN, 2), (KEY_3, 1), (BIG, 63)):
            for top in range(most + 1):
                desk = Desk(key, top)
                self.assertEqual((desk.key, desk.top, desk.paper()), (key, top, ""))
                self.assertEqual(state_of_ledger(desk.ledger), state_of_ledger(Ledger(key, top)))
            for top in (most + 1, most + 2, -1, 10 ** 59, -10 ** 59):
                self.assertEqual(raised_by(Desk, key, top), BadStatement)
                for paper in ("", "x", "issue a 0 0"):
                    self.assertEqual(raised_by(Desk.replayed, key, top, paper), BadStatement)


class Commands(unittest.TestCase):
    def test_example(self):
        desk = Desk(KEY, 2)
        self.assertEqual(desk.line("issue ann 2 7"), "issued ann")
        self.assertEqual(desk.line("issue bob 0 0"), "issued bob")
        self.assertEqual(tuple(desk.ledger), (("issue", "ann", 2, 2), ("issue", "bob", 0, 0)))
        self.assertEqual(desk.line("cover ann"), str(KEY.cover(2, 2)))
        self.assertEqual(desk.line("audit ann"), "2 2")
        self.assertEqual(desk.line("pay ann bob 1 0 9"), "paid 3")
        # The first number that the seed 0 draws is 3, the blind of the amount.
        self.assertEqual(desk.line("audit ann"), "1 4")
        self.assertEqual(desk.line("audit bob"), "1 3")
        self.assertEqual(desk.line("cover bob"), str(KEY.cover(1, 3)))
        self.assertEqual(desk.line("audit ann bob"), "2 2")
        self.assertEqual(desk.line("audit ann ann bob ann"), "4 0")
        self.assertEqual(desk.line("undo"), "undone")
        self.assertEqual(desk.line("audit bob ann"), "2 2")
        self.assertEqual(desk.paper(), "issue ann 2 7\nissue bob 0 0")

    def test_every_line_as_the_document_says(self):
        numbers = random.Random(1)
        for key, top in (*ALL_KEYS, (BIG, 63)):
            q = key.group.order
            desk, done = Desk(key, top), []
            for line in random_lines(numbers, top):
                answer = desk.line(line)
                done.append(line)
                words = line.split(" ")
                self.assertEqual(answer, f"issued {words[1]}" if words[0] == "issue" else f"paid {len(done)}")
                steps = steps_of(key, top, done)
                self.assertEqual(state_of_ledger(desk.ledger), state_of_ledger(hold_ledger(key, top, steps)))
                self.assertEqual(desk.paper(), "\n".join(done))
                openings = openings_of(key, steps)
                for name, (value, blind) in openings.items():
                    self.assertEqual(desk.line("audit " + name), f"{value} {blind}")
                    self.assertEqual(desk.line("cover " + name), str(desk.ledger.cover_of(name)))
                names = numbers.choices(list(openings), k=numbers.randrange(1, 6))
                value = sum(openings[name][0] for name in names)
                blind = sum(openings[name][1] for name in names) % q
                self.assertEqual(desk.line("audit " + " ".join(names)), f"{value} {blind}")

    def test_audits_agree_with_the_ledger(self):
        numbers = random.Random(2)
        desk = desk_with(*random_lines(numbers, 3, payments=5), key=HIDING[4][0], top=3)
        names = desk.ledger.names
        for many in range(1, 5):
            for some in itertools.permutations(names, many):
                value, blind = desk.line("audit " + " ".join(some)).split(" ")
                self.assertIs(desk.ledger.audit(some, int(value), int(blind)), True)

    def test_large_numbers(self):
        desk = desk_with("issue a 2 999999999", "issue b 0 0")
        self.assertEqual(tuple(desk.ledger)[0], ("issue", "a", 2, 999999999 % 5))
        for value in ("3", "5", "7", "999999999"):
            self.assertEqual(raised_by(desk.line, f"issue x {value} 0"), Refused)
        self.assertEqual(desk.line("pay a b 2 999999999 999999998"), "paid 3")
        self.assertEqual(tuple(desk.ledger)[2][6][1], 999999998 % 5)
        self.assertEqual(
            tuple(desk.ledger), tuple(hold_ledger(KEY, 2, steps_of(KEY, 2, desk.paper().split("\n"))))
        )
        for amount in ("3", "5", "999999999"):
            self.assertEqual(raised_by(desk.line, f"pay b a {amount} 0 0"), NoWitness)

    def test_top_zero(self):
        desk = desk_with("issue a 0 3", "issue b 0 1", top=0)
        self.assertEqual(raised_by(desk.line, "issue c 1 0"), Refused)
        self.assertEqual(desk.line("pay a b 0 0 9"), "paid 3")
        # The seed 0 draws 3 and 0 first: the blind of the amount, and the first number of the tape.
        self.assertEqual(desk.line("audit a"), "0 0")
        self.assertEqual(desk.line("audit b"), "0 4")
        self.assertEqual(tuple(desk.ledger), tuple(hold_ledger(KEY, 0, steps_of(KEY, 0, desk.paper().split("\n")))))
        self.assertEqual(raised_by(desk.line, "pay a b 1 0 9"), NoWitness)

    def test_names_of_1_and_8_letters(self):
        desk = desk_with("issue a 1 0", "issue zzzzzzzz 0 1", "pay a zzzzzzzz 1 5 5")
        self.assertEqual(desk.ledger.names, ("a", "zzzzzzzz"))


class Errors(unittest.TestCase):
    def test_issue(self):
        desk = desk_with(*START)
        before = state_of(desk)
        for line, expected in (
            ("issue ann 0 0", DoubleName), ("issue ann 9 0", DoubleName), ("issue d 1 0", Refused),
            ("issue d 5 0", Refused), ("issue d 6 0", Refused), ("issue d 999999999 0", Refused),
        ):
            self.assertEqual(raised_by(desk.line, line), expected)
            self.assertEqual(state_of(desk), before)
        self.assertEqual(desk.line("issue d 0 9"), "issued d")

    def test_pay_in_its_order(self):
        desk = desk_with(*START)
        before = state_of(desk)
        for sender, receiver, amount in itertools.product(
            ("ann", "c", "x"), ("ann", "c", "y"), ("0", "1", "2", "999999999")
        ):
            expected = None
            if int(amount) > (1 if sender == "ann" else 0):
                expected = NoWitness
            if sender == receiver:
                expected = Refused
            if sender == "x" or receiver == "y":
                expected = UnknownName
            if expected is not None:
                self.assertEqual(raised_by(desk.line, f"pay {sender} {receiver} {amount} 3 4"), expected)
                self.assertEqual(state_of(desk), before)
        self.assertEqual(desk.line("pay ann c 1 3 4"), "paid 4")
        self.assertEqual(desk.line("pay c bob 1 3 4"), "paid 5")
        self.assertEqual(raised_by(desk.line, "pay ann bob 1 3 4"), NoWitness)

    def test_unknown_names(self):
        desk = desk_with(*START)
        before = state_of(desk)
        for line in ("cover x", "audit x", "audit ann x", "audit x ann", "audit ann bob c d"):
            self.assertEqual(raised_by(desk.line, line), UnknownName)
            self.assertEqual(state_of(desk), before)
        self.assertEqual(raised_by(Desk(KEY, 1).line, "cover ann"), UnknownName)


class Words(unittest.TestCase):
    GOOD = (
        ("issue", ("name", "number", "number")), ("pay", ("name", "name", "number", "number", "number")),
        ("cover", ("name",)), ("audit", ("name",)), ("audit", ("name",) * 4), ("undo", ()),
    )
    SAMPLE = {"name": "bob", "number": "1"}

    def check(self, desk, words, at):
        before = state_of(desk)
        self.assertEqual(wrong_at(desk, " ".join(words)), at, words)
        self.assertEqual(state_of(desk), before)

    def test_the_first_word(self):
        for desk in (Desk(KEY, 2), desk_with(*START)):
            for word in ("", "Issue", "ISSUE", "pays", "issu", "issues", "cove", "Undo", "redo", "1", "ann", "undo\n",
                         "\nundo", "\tundo", "name", "number", "line"):
                for rest in ((), ("bob",), ("bob", "1", "1"), ("",), ("", "")):
                    self.check(desk, (word, *rest), 0)

    def test_missing_words(self):
        desk = desk_with(*START)
        for word, kinds in self.GOOD:
            rest = tuple(self.SAMPLE[kind] for kind in kinds)
            for many in range(len(rest)):
                if word != "audit" or many == 0:
                    self.check(desk, (word, *rest[:many]), many + 1)

    def test_superfluous_words(self):
        desk = desk_with(*START)
        for word, kinds in self.GOOD:
            rest = tuple(self.SAMPLE[kind] for kind in kinds)
            for more in (("",), ("1",), ("", ""), ("bob", "1"), ("x", "y", "z"), ("bob", "BOB")):
                if word == "audit" and more[0] == "bob":
                    self.check(desk, (word, *rest, *more), len(rest) + 2)
                elif word != "audit" or more[0] != "x":
                    self.check(desk, (word, *rest, *more), len(rest) + 1)

    def test_wrong_words(self):
        desk = desk_with(*START)
        for word, kinds in self.GOOD:
            rest = tuple(self.SAMPLE[kind] for kind in kinds)
            for at, kind in enumerate(kinds):
                for wrong in NO_NAMES if kind == "name" else NO_NUMBERS:
                    words = (word, *rest[:at], wrong, *rest[at + 1:])
                    self.check(desk, words, at + 1)
                    # The first wrong word counts, also if words are missing or superfluous.
                    self.check(desk, words[:at + 2], at + 1)
                    self.check(desk, (*words, "x", ""), at + 1)

    def test_the_first_of_two_wrong_words(self):
        desk = desk_with(*START)
        for word, kinds in self.GOOD:
            for first, second in itertools.combinations(range(len(kinds)), 2):
                words = [word, *[self.SAMPLE[kind] for kind in kinds]]
                words[first + 1] = words[second + 1] = ""
                self.check(desk, words, first + 1)

    def test_spaces(self):
        desk = desk_with(*START)
        for text, at in (
            ("", 0), (" ", 0), ("  ", 0), (" undo", 0), ("undo ", 1), ("undo  ", 1), ("cover  bob", 1),
            ("cover bob ", 2), (" cover bob", 0), ("audit ", 1), ("audit", 1), ("audit  ", 1), ("audit bob ", 2),
            ("audit bob  ann", 2), ("issue d 0 0 ", 4), ("issue d 0  0", 3), ("issue  d 0 0", 1), ("issue d 0 ", 3),
            ("pay ann bob 1 1", 5), ("pay ann bob 1 1 ", 5), ("pay ann", 2), ("pay", 1), ("issue", 1), ("cover", 1),
        ):
            before = state_of(desk)
            self.assertEqual(wrong_at(desk, text), at, text)
            self.assertEqual(state_of(desk), before)

    def test_numbers_of_9_digits(self):
        desk = desk_with(*START)
        for number in ("0", "9", "10", "100000000", "999999999"):
            self.assertIsNone(wrong_at(desk, f"pay ann bob 0 {number} {number}"))
            self.assertEqual(desk.line(f"issue {'abcdefgh'[:len(number) % 8 + 1]}x 0 {number}")[:7], "issued ")
            desk.line("undo")

    def test_bad_line_before_all_other_errors(self):
        desk = Desk(KEY, 2)
        for line, at in (
            ("pay x y 01 0 0", 3), ("pay x x 9 0", 5), ("pay x y 0 0 0 0", 6), ("cover x y", 2), ("audit x Y", 2),
            ("undo undo", 1), ("issue x 9 0 0", 4),
        ):
            self.assertEqual(wrong_at(desk, line), at)
        self.assertEqual(raised_by(desk.line, "undo"), Refused)


class Undoing(unittest.TestCase):
    def test_each_line(self):
        numbers = random.Random(3)
        for key, top in ALL_KEYS:
            lines = random_lines(numbers, top)
            desk, states = Desk(key, top), []
            for line in lines:
                states.append(state_of(desk))
                desk.line(line)
            for many in range(len(lines), 0, -1):
                self.assertEqual(desk.line("undo"), "undone")
                self.assertEqual(state_of(desk), states[many - 1])
                if many == len(lines) // 2:
                    break
            # Other lines after the undone ones.
            for line in lines[many - 1:]:
                desk.line(line)
            self.assertEqual(desk.paper(), "\n".join(lines))
            self.assertEqual(tuple(desk.ledger), tuple(hold_ledger(key, top, steps_of(key, top, lines))))

    def test_nothing_to_undo(self):
        desk = Desk(KEY, 2)
        self.assertEqual(raised_by(desk.line, "undo"), Refused)
        desk.line("issue a 1 1")
        desk.line("cover a")
        desk.line("audit a")
        self.assertEqual(desk.line("undo"), "undone")
        before = state_of(desk)
        for _ in range(2):
            self.assertEqual(raised_by(desk.line, "undo"), Refused)
            self.assertEqual(state_of(desk), before)

    def test_a_name_can_be_issued_again(self):
        desk = desk_with("issue a 2 1", "undo")
        self.assertEqual(raised_by(desk.line, "cover a"), UnknownName)
        self.assertEqual(raised_by(desk.line, "audit a"), UnknownName)
        self.assertEqual(desk.line("issue b 2 1"), "issued b")
        self.assertEqual(raised_by(desk.line, "issue a 1 1"), Refused)
        self.assertEqual(desk.line("issue a 0 4"), "issued a")
        self.assertEqual(desk.ledger.names, ("b", "a"))
        self.assertEqual(desk.ledger.issued, (2, 0))
        self.assertEqual(desk.paper(), "issue b 2 1\nissue a 0 4")

    def test_balances_come_back(self):
        desk = desk_with(*START, "pay ann bob 1 5 6")
        self.assertEqual(raised_by(desk.line, "pay ann c 1 0 0"), NoWitness)
        desk.line("undo")
        self.assertEqual(desk.line("pay ann c 1 0 0"), "paid 4")
        self.assertEqual(desk.line("pay c bob 1 0 0"), "paid 5")
        desk.line("undo")
        desk.line("undo")
        self.assertEqual(desk.paper(), "\n".join(START))
        self.assertEqual(desk.line("audit ann bob c"), "2 0")


class Lines(unittest.TestCase):
    def test_answers(self):
        text = "issue ann 2 1\nissue bob 0 0\npay ann bob 1 0 9\naudit ann bob\nundo\ncover bob"
        desk = Desk(KEY, 2)
        answers = desk.lines(text)
        self.assertEqual(answers, ("issued ann", "issued bob", "paid 3", "2 1", "undone", "1"))
        other = Desk(KEY, 2)
        self.assertEqual(tuple(other.line(line) for line in text.split("\n")), answers)
        self.assertEqual(state_of(other), state_of(desk))

    def test_the_empty_text(self):
        desk = desk_with(*START)
        before = state_of(desk)
        self.assertEqual(desk.lines(""), ())
        self.assertEqual(state_of(desk), before)
        for text, number in (("\n", 1), ("cover ann\n", 2), ("\ncover ann", 1), ("cover ann\n\ncover bob", 2),
                             ("undo\nundo\n", 3), (" ", 1)):
            self.assertEqual(wrong_line(desk, text), number)
            self.assertEqual(state_of(desk), before)
        self.assertEqual(desk.lines("cover ann"), (desk.line("cover ann"),))

    def test_an_error_in_any_line(self):
        good = [
            "issue d 0 4", "pay ann c 1 77 8", "undo", "pay bob d 1 5 6", "audit ann d", "undo", "undo", "undo",
            "issue c 0 1", "pay bob c 1 9 9",
        ]
        desk = desk_with(*START, "pay ann bob 1 3 3", "undo")
        before = state_of(desk)
        for at in range(len(good) + 1):
            for wrong in ("", "undo x", "cover x", "pay x ann 0 0 0", "issue bob 0 0", "pay bob bob 0 0 0",
                          "issue e 9 0", "pay bob ann 9 0 0"):
                text = "\n".join([*good[:at], wrong, *good[at:]])
                self.assertEqual(wrong_line(desk, text), at + 1)
                self.assertEqual(state_of(desk), before)
        with self.assertRaises(LineError) as caught:
            desk.lines("undo\nundo\nundo\nundo")
        self.assertEqual(caught.exception.number, 4)
        self.assertEqual(state_of(desk), before)
        self.assertEqual(desk.lines("\n".join(good))[-1], "paid 4")
        # What is undone later goes back behind the call.
        self.assertEqual(desk.lines("undo\nundo\nundo"), ("undone",) * 3)
        self.assertEqual(desk.paper(), START[0])

    def test_a_failed_call_leaves_what_was_done_to_be_undone(self):
        desk = desk_with(*START, "pay ann c 1 2 2")
        before = state_of(desk)
        self.assertEqual(wrong_line(desk, "undo\nundo\nissue zz 0 0\nbad"), 4)
        self.assertEqual(state_of(desk), before)
        self.assertEqual(desk.line("undo"), "undone")
        self.assertEqual(desk.paper(), "\n".join(START))
        self.assertEqual(raised_by(desk.line, "cover zz"), UnknownName)


class Papers(unittest.TestCase):
    def test_replayed(self):
        numbers = random.Random(4)
        for key, top in (*ALL_KEYS, (BIG, 63)):
            desk = Desk(key, top)
            for line in random_lines(numbers, top):
                desk.line(line)
                if numbers.randrange(3) == 0:
                    desk.line("audit ann")
                if numbers.randrange(4) == 0:
                    desk.line("undo")
                    desk.line(line)
            again = Desk.replayed(key, top, desk.paper())
            self.assertIsInstance(again, Desk)
            self.assertEqual(state_of(again), state_of(desk))

    def test_other_lines_in_a_paper(self):
        desk = Desk.replayed(KEY, 2, "issue a 1 1\ncover a\nissue b 0 0\nundo\naudit a")
        self.assertEqual(desk.paper(), "issue a 1 1")
        self.assertEqual(desk.line("undo"), "undone")
        self.assertEqual(state_of(Desk.replayed(KEY, 2, "")), state_of(Desk(KEY, 2)))

    def test_line_errors(self):
        for paper, number in (("x", 1), ("issue a 1 1\n", 2), ("issue a 1 1\nissue a 0 0", 2), ("undo", 1)):
            with self.assertRaises(LineError) as caught:
                Desk.replayed(KEY, 2, paper)
            self.assertEqual(caught.exception.number, number)

    def test_a_smaller_top(self):
        paper = desk_with("issue a 2 1", "issue b 0 0").paper()
        self.assertEqual(raised_by(Desk.replayed, KEY, 1, paper), LineError)
