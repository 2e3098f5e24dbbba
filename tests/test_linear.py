import random
import unittest

from hushpapers.linear import is_fixed, kernel, rank, reduced, solve
from tests.samples import rows_of


def dot(q, row, x):
    return sum(a * b for a, b in zip(row, x, strict=True)) % q


def combinations_of(q, width, rows):
    """Return all sums of multiples of the rows."""
    found = {(0,) * width}
    for row in rows:
        found = {
            tuple((a + times * b) % q for a, b in zip(old, row)) for old in found for times in range(q)
        }
    return found


def leads_of(form):
    return [next(at for at, entry in enumerate(row) if entry) for row in form]


def systems(seed, many):
    """Yield small systems: random rows, among them zeros, equal rows and sums of others."""
    numbers = random.Random(seed)
    for _ in range(many):
        q = numbers.choice((3, 3, 5, 7))
        width = numbers.randrange(0, 5 if q == 3 else 4)
        rows = []
        for _ in range(numbers.randrange(0, 5)):
            kind = numbers.randrange(5)
            if kind == 0:
                rows.append((0,) * width)
            elif kind == 1 and rows:
                rows.append(numbers.choice(rows))
            elif kind == 2 and rows:
                first, second = numbers.choice(rows), numbers.choice(rows)
                times = numbers.randrange(q)
                rows.append(tuple((times * a + b) % q for a, b in zip(first, second)))
            else:
                rows.append(tuple(numbers.randrange(q) for _ in range(width)))
        yield q, width, tuple(rows)


class ReducedForm(unittest.TestCase):
    def check_form(self, q, width, rows):
        form = reduced(q, width, rows)
        self.assertIsInstance(form, tuple)
        for row in form:
            self.assertIsInstance(row, tuple)
            self.assertEqual(len(row), width)
            self.assertTrue(all(0 <= entry < q for entry in row))
        leads = leads_of(form)
        self.assertEqual(leads, sorted(set(leads)))
        for at, lead in enumerate(leads):
            self.assertEqual([row[lead] for row in form], [1 if i == at else 0 for i in range(len(form))])
        self.assertEqual(rank(q, width, rows), len(form))
        return form

    def test_small_systems(self):
        for q, width, rows in systems(1, 400):
            form = self.check_form(q, width, rows)
            self.assertEqual(combinations_of(q, width, form), combinations_of(q, width, rows))

    def test_every_pair_of_rows(self):
        for first in rows_of(3, 3):
            for second in rows_of(3, 3):
                form = self.check_form(3, 3, (first, second))
                spanned = combinations_of(3, 3, (first, second))
                self.assertEqual(combinations_of(3, 3, form), spanned)
                self.assertEqual(3 ** rank(3, 3, (first, second)), len(spanned))

    def test_order_of_rows_does_not_matter(self):
        numbers = random.Random(2)
        for q, width, rows in systems(2, 150):
            shuffled = list(rows)
            numbers.shuffle(shuffled)
            self.assertEqual(reduced(q, width, tuple(shuffled)), reduced(q, width, rows))
            self.assertEqual(reduced(q, width, reduced(q, width, rows)), reduced(q, width, rows))

    def test_no_rows_and_no_columns(self):
        for width in (0, 1, 2, 64):
            self.assertEqual(reduced(5, width, ()), ())
            self.assertEqual(rank(5, width, ()), 0)
            self.assertEqual(reduced(5, width, ((0,) * width,) * 3), ())
        self.assertEqual(reduced(5, 0, ((), ())), ())
        self.assertEqual(rank(5, 0, ((), ())), 0)

    def test_known_forms(self):
        self.assertEqual(reduced(5, 3, ((2, 4, 1),)), ((1, 2, 3),))
        self.assertEqual(reduced(7, 3, ((0, 0, 3), (0, 2, 1))), ((0, 1, 0), (0, 0, 1)))
        self.assertEqual(reduced(3, 2, ((1, 1), (1, 2))), ((1, 0), (0, 1)))
        self.assertEqual(reduced(3, 2, ((1, 2), (2, 1), (0, 0))), ((1, 2),))

    def test_wide_systems(self):
        numbers = random.Random(3)
        for q in (3, 127):
            rows = tuple(tuple(numbers.randrange(q) for _ in range(64)) for _ in range(60))
            more = tuple(tuple((a + 2 * b) % q for a, b in zip(rows[i], rows[i + 1])) for i in range(4))
            form = self.check_form(q, 64, rows + more)
            self.assertEqual(form, self.check_form(q, 64, more + rows))
            self.assertLessEqual(len(form), 60)

    def test_by_name(self):
        self.assertEqual(reduced(rows=((2, 4, 1),), width=3, q=5), ((1, 2, 3),))
        self.assertEqual(rank(rows=((2, 4, 1),), width=3, q=5), 1)


class Kernel(unittest.TestCase):
    def check_kernel(self, q, width, rows):
        found = kernel(q, width, rows)
        self.assertIsInstance(found, tuple)
        leads = leads_of(reduced(q, width, rows))
        free = [column for column in range(width) if column not in leads]
        self.assertEqual(len(found), len(free))
        self.assertEqual(len(found), width - rank(q, width, rows))
        for column, x in zip(free, found):
            self.assertIsInstance(x, tuple)
            self.assertTrue(len(x) == width and all(0 <= entry < q for entry in x))
            self.assertEqual([x[other] for other in free], [int(other == column) for other in free])
            self.assertTrue(all(dot(q, row, x) == 0 for row in rows))
        return found

    def test_small_systems(self):
        for q, width, rows in systems(4, 300):
            found = self.check_kernel(q, width, rows)
            solutions = {x for x in rows_of(q, width) if all(dot(q, row, x) == 0 for row in rows)}
            self.assertEqual(combinations_of(q, width, found), solutions)

    def test_no_rows_and_no_columns(self):
        self.assertEqual(kernel(5, 0, ()), ())
        self.assertEqual(kernel(5, 0, ((), ())), ())
        self.assertEqual(kernel(5, 2, ()), ((1, 0), (0, 1)))
        self.assertEqual(kernel(5, 2, ((0, 0),)), ((1, 0), (0, 1)))
        self.assertEqual(kernel(5, 2, ((1, 0), (0, 1))), ())

    def test_known(self):
        self.assertEqual(kernel(5, 3, ((1, 2, 3),)), ((3, 1, 0), (2, 0, 1)))
        self.assertEqual(kernel(5, 3, ((0, 1, 3),)), ((1, 0, 0), (0, 2, 1)))

    def test_wide_system(self):
        numbers = random.Random(5)
        rows = tuple(tuple(numbers.randrange(127) for _ in range(64)) for _ in range(40))
        self.assertEqual(len(self.check_kernel(127, 64, rows + rows[:5])), 24)

    def test_by_name(self):
        self.assertEqual(kernel(rows=((1, 2, 3),), width=3, q=5), ((3, 1, 0), (2, 0, 1)))


class Solve(unittest.TestCase):
    def check_solution(self, q, width, rows, targets, found):
        self.assertIsInstance(found, tuple)
        self.assertTrue(len(found) == width and all(0 <= entry < q for entry in found))
        self.assertEqual(tuple(dot(q, row, found) for row in rows), targets)
        leads = leads_of(reduced(q, width, rows))
        self.assertTrue(all(found[at] == 0 for at in range(width) if at not in leads))

    def test_small_systems(self):
        for q, width, rows in systems(6, 120):
            possible = {tuple(dot(q, row, x) for row in rows) for x in rows_of(q, width)}
            for targets in rows_of(q, len(rows))[:300]:
                found = solve(q, width, rows, targets)
                if targets in possible:
                    self.check_solution(q, width, rows, targets, found)
                else:
                    self.assertIsNone(found)

    def test_no_rows_and_no_columns(self):
        for width in (0, 1, 5, 64):
            self.assertEqual(solve(5, width, (), ()), (0,) * width)
        self.assertEqual(solve(5, 0, ((), ()), (0, 0)), ())
        self.assertIsNone(solve(5, 0, ((), ()), (0, 1)))
        self.assertEqual(solve(5, 2, ((0, 0),), (0,)), (0, 0))
        self.assertIsNone(solve(5, 2, ((0, 0),), (3,)))

    def test_known(self):
        self.assertEqual(solve(5, 3, ((0, 2, 1),), (3,)), (0, 4, 0))
        self.assertEqual(solve(7, 2, ((1, 1), (1, 2)), (3, 5)), (1, 2))
        self.assertIsNone(solve(7, 2, ((1, 1), (2, 2)), (3, 5)))
        self.assertEqual(solve(7, 2, ((1, 1), (2, 2)), (3, 6)), (3, 0))

    def test_wide_system(self):
        numbers = random.Random(7)
        rows = tuple(tuple(numbers.randrange(127) for _ in range(64)) for _ in range(50))
        x = tuple(numbers.randrange(127) for _ in range(64))
        rows = rows + rows[:3]
        targets = tuple(dot(127, row, x) for row in rows)
        self.check_solution(127, 64, rows, targets, solve(127, 64, rows, targets))
        wrong = (*targets[:-1], (targets[-1] + 1) % 127)
        self.assertIsNone(solve(127, 64, rows, wrong))

    def test_by_name(self):
        self.assertEqual(solve(targets=(3,), rows=((0, 2, 1),), width=3, q=5), (0, 4, 0))


class Fixed(unittest.TestCase):
    def test_small_systems(self):
        numbers = random.Random(8)
        for q, width, rows in systems(8, 150):
            for _ in range(4):
                form = tuple(numbers.randrange(q) for _ in range(width))
                values = {}
                for x in rows_of(q, width):
                    targets = tuple(dot(q, row, x) for row in rows)
                    values.setdefault(targets, []).append(dot(q, form, x))
                fixed = all(len(set(seen)) == 1 for seen in values.values())
                self.assertIs(is_fixed(q, width, rows, form), fixed)
                if not fixed:
                    for seen in values.values():
                        self.assertEqual({seen.count(v) for v in range(q)}, {len(seen) // q})

    def test_edges(self):
        self.assertIs(is_fixed(5, 0, (), ()), True)
        self.assertIs(is_fixed(5, 0, ((), ()), ()), True)
        self.assertIs(is_fixed(5, 2, (), (0, 0)), True)
        self.assertIs(is_fixed(5, 2, (), (0, 1)), False)
        self.assertIs(is_fixed(5, 2, ((1, 2),), (2, 4)), True)
        self.assertIs(is_fixed(5, 2, ((1, 2),), (2, 3)), False)
        self.assertIs(is_fixed(5, 2, ((1, 2), (2, 3)), (4, 3)), True)
        self.assertIs(is_fixed(5, 2, ((1, 2), (1, 2)), (1, 3)), False)

    def test_by_name(self):
        self.assertIs(is_fixed(form=(2, 4), rows=((1, 2),), width=2, q=5), True)


class NothingChanges(unittest.TestCase):
    def test_what_is_passed_stays(self):
        """Rows that are lists would show any change, so lists are passed here."""
        rows = [[0, 2, 1], [2, 1, 1], [2, 3, 2]]
        targets = [1, 2, 3]
        form = [1, 1, 0]
        kept = ([list(row) for row in rows], list(targets), list(form))
        reduced(5, 3, rows)
        rank(5, 3, rows)
        kernel(5, 3, rows)
        solve(5, 3, rows, targets)
        is_fixed(5, 3, rows, form)
        self.assertEqual((rows, targets, form), kept)
