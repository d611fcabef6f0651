"""The classes of errors: what they are made with, what they keep, and what they stand under."""
import inspect
import unittest

from helpers import ODD_VALUES
from sweepends import errors
from sweepends.errors import SweepError

GIVEN = ("InvalidFraction", "InvalidNumber", "InvalidIndex", "InvalidTable", "InvalidMethod", "InvalidParting",
         "InvalidFactor", "InvalidShare", "InvalidPolynomial", "InvalidBounds")
INDEX = ("InvalidRow", "InvalidAmounts", "InvalidSteps", "InvalidWalls", "InvalidOrder")
PLAIN = ("NoInverse", "NotSplit", "NotSymmetric", "NotPositive", "NotLevelled", "NotBelow")
WITH_ATTRIBUTES = [(name, "given") for name in GIVEN] + [(name, "index") for name in INDEX]


class Errors(unittest.TestCase):
    def test_all_are_there(self):
        found = {name for name, worth in vars(errors).items() if inspect.isclass(worth)}
        self.assertEqual(found, {"SweepError", *GIVEN, *INDEX, *PLAIN})

    def test_each_is_defined_there(self):
        for name in GIVEN + INDEX + PLAIN + ("SweepError",):
            self.assertEqual(getattr(errors, name).__module__, "sweepends.errors")

    def test_kept_by_position_and_by_name(self):
        values = ODD_VALUES + (0, 7, 1.5, (1, 2), (((1, 2),),), ["a", ["b"]], SweepError)
        for name, attribute in WITH_ATTRIBUTES:
            kind = getattr(errors, name)
            for value in values:
                self.assertIs(getattr(kind(value), attribute), value)
                self.assertIs(getattr(kind(**{attribute: value}), attribute), value)

    def test_only_their_own_attribute(self):
        for name, attribute in WITH_ATTRIBUTES:
            self.assertEqual(list(vars(getattr(errors, name)(3))), [attribute])
        for name in PLAIN + ("SweepError",):
            self.assertEqual(vars(getattr(errors, name)()), {})

    def test_attributes_are_needed(self):
        for name, attribute in WITH_ATTRIBUTES:
            kind = getattr(errors, name)
            other = "index" if attribute == "given" else "given"
            with self.assertRaises(TypeError):
                kind()
            with self.assertRaises(TypeError):
                kind(1, 2)
            with self.assertRaises(TypeError):
                kind(**{other: 1})

    def test_stands_under_one_base(self):
        self.assertEqual(SweepError.__bases__, (ValueError,))
        for name in GIVEN + INDEX + PLAIN:
            kind = getattr(errors, name)
            self.assertEqual(kind.__bases__, (SweepError,))
            self.assertEqual(kind.__mro__, (kind, SweepError, ValueError, Exception, BaseException, object))

    def test_stands_under_no_other(self):
        names = GIVEN + INDEX + PLAIN
        for name in names:
            kind = getattr(errors, name)
            for other in names:
                self.assertEqual(issubclass(kind, getattr(errors, other)), name == other)
            for other in (TypeError, LookupError, ArithmeticError, RuntimeError, OSError):
                self.assertFalse(issubclass(kind, other))

    def test_raised_and_caught(self):
        for name, attribute in WITH_ATTRIBUTES:
            kind = getattr(errors, name)
            with self.assertRaises(SweepError) as caught:
                raise kind((1, 2))
            self.assertIs(type(caught.exception), kind)
            self.assertEqual(getattr(caught.exception, attribute), (1, 2))
        for name in PLAIN:
            with self.assertRaises(SweepError) as caught:
                raise getattr(errors, name)()
            self.assertIs(type(caught.exception), getattr(errors, name))


if __name__ == "__main__":
    unittest.main()
