"""Tests of consol.errors (point 4)."""

import unittest

from consol import errors
from consol.errors import ConsolError

ONE_ARGUMENT = {
    "TooLarge": "limit",
    "InvalidClaims": "reason",
    "InvalidSystem": "reason",
    "InvalidNumber": "text",
    "UnknownLet": "name",
    "DuplicateAccount": "name",
    "UnknownAccount": "name",
    "NotANominee": "name",
    "NotAHolder": "name",
    "NoVote": "name",
    "DuplicateBond": "name",
    "UnknownBond": "name",
    "NotStraight": "name",
    "AccountTaken": "name",
    "NotNoted": "day",
    "InvalidWord": "word",
    "Unbalanced": "rest",
}
TWO_ARGUMENTS = {
    "MissingFact": ("name", "day"),
    "MissingRate": ("name", "day"),
    "TooFew": ("name", "held"),
    "NoSingleRate": ("ring", "weights"),
    "NoCall": ("name", "day"),
}
NO_ARGUMENTS = ("DivisionByZero", "TooDeep", "InvalidUnits", "InvalidDay", "InvalidShare", "InvalidLine")
ALL = ("TextError", *ONE_ARGUMENT, *TWO_ARGUMENTS, *NO_ARGUMENTS)


class ErrorsTest(unittest.TestCase):
    def test_base_class(self):
        self.assertEqual(ConsolError.__bases__, (ValueError,))

    def test_each_class_is_directly_below_the_base(self):
        for name in ALL:
            with self.subTest(name):
                kind = getattr(errors, name)
                self.assertEqual(kind.__bases__, (ConsolError,))
                self.assertEqual(kind.__name__, name)
                self.assertEqual(kind.__module__, "consol.errors")

    def test_classes_differ(self):
        self.assertEqual(len({id(getattr(errors, name)) for name in ALL}), 29)

    def test_text_error(self):
        error = errors.TextError(3, 14, "word")
        self.assertEqual((error.line, error.column, error.reason), (3, 14, "word"))
        error = errors.TextError(reason="deep", column=2, line=1)
        self.assertEqual((error.line, error.column, error.reason), (1, 2, "deep"))

    def test_one_argument(self):
        for name, attribute in ONE_ARGUMENT.items():
            with self.subTest(name):
                error = getattr(errors, name)("told")
                self.assertEqual(getattr(error, attribute), "told")

    def test_two_arguments(self):
        for name, (first, second) in TWO_ARGUMENTS.items():
            with self.subTest(name):
                error = getattr(errors, name)("one", 2)
                self.assertEqual((getattr(error, first), getattr(error, second)), ("one", 2))

    def test_other_kinds_of_values(self):
        self.assertEqual(errors.Unbalanced((-3, 4)).rest, (-3, 4))
        error = errors.NoSingleRate(["x", "y"], [(1, 1), (10 ** 5000, 1)])
        self.assertEqual((error.ring, error.weights), (["x", "y"], [(1, 1), (10 ** 5000, 1)]))

    def test_no_arguments(self):
        for name in NO_ARGUMENTS:
            with self.subTest(name), self.assertRaises(ConsolError):
                raise getattr(errors, name)()

    def test_one_kind_does_not_catch_another(self):
        for name in ALL:
            for other in ALL:
                if name != other:
                    self.assertFalse(issubclass(getattr(errors, name), getattr(errors, other)))


if __name__ == "__main__":
    unittest.main()
