import unittest

from hushpapers import errors

PLAIN = (
    "NoInverse BadPoints BadGroup NoLogarithm BadKey OpenKey NotOneCover SameOpening BadStatement "
    "BadWitness BadTape BadChallenge NotAccepted DifferentStarts SameChallenge BadBatch NoWitness "
    "Refused WrongCoin UnknownName DoubleName Closed Full UnitPass"
).split()
WITH_NUMBER = {"BadText": "at", "BadLine": "at", "LineError": "number"}


def every_error():
    """Return one object of each of the classes, by its name."""
    made = {name: getattr(errors, name)() for name in PLAIN}
    made.update({name: getattr(errors, name)(4) for name in WITH_NUMBER})
    return made


class ErrorTree(unittest.TestCase):
    def test_there_are_twenty_seven(self):
        self.assertEqual(len(every_error()), 27)

    def test_base(self):
        self.assertEqual(errors.HushError.__bases__, (ValueError,))

    def test_each_is_a_direct_subclass_of_its_own(self):
        for name, error in every_error().items():
            with self.subTest(name):
                self.assertEqual(error.__class__.__bases__, (errors.HushError,))
                self.assertEqual(error.__class__.__name__, name)
                self.assertEqual(error.__class__.__module__, "hushpapers.errors")

    def test_each_is_caught_as_what_it_is_and_as_nothing_else(self):
        made = every_error()
        for name, error in made.items():
            for catching in (errors.HushError, ValueError, error.__class__):
                with self.subTest(name, catching=catching), self.assertRaises(catching):
                    raise error
            for other, other_error in made.items():
                if other != name:
                    with self.subTest(name, other=other):
                        self.assertNotIsInstance(error, other_error.__class__)

    def test_numbers_are_kept(self):
        for name, attribute in WITH_NUMBER.items():
            for number in (0, 1, 17, 10 ** 50):
                with self.subTest(name, number=number):
                    error = getattr(errors, name)(number)
                    self.assertEqual(getattr(error, attribute), number)
                    self.assertEqual(getattr(getattr(errors, name)(**{attribute: number}), attribute), number)

    def test_numbers_are_needed(self):
        for name in WITH_NUMBER:
            with self.subTest(name), self.assertRaises(TypeError):
                getattr(errors, name)()

    def test_numbers_are_kept_when_raised(self):
        with self.assertRaises(errors.HushError) as caught:
            raise errors.BadText(3)
        self.assertEqual(caught.exception.at, 3)
        with self.assertRaises(ValueError) as caught:
            raise errors.LineError(5)
        self.assertEqual(caught.exception.number, 5)
