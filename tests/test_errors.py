"""Promises 1.1 and 1.2: the errors."""

import unittest

from lawseries import errors
from lawseries.base.ratios import Ratio
from tests.support import Checks, LONG, eight_deep

WITH_MESSAGE = [
    "InvalidRatio", "InvalidModulus", "InvalidRow", "InvalidDouble", "InvalidLaw", "InvalidLog",
    "InvalidSteps", "InvalidPrime", "InvalidParts", "InvalidCurve", "InvalidGhosts",
    "InvalidCubic", "InvalidGenus", "InvalidPledge", "InvalidOperation",
]
DERIVED = {
    "SeriesError": ValueError,
    **{name: errors.SeriesError for name in WITH_MESSAGE},
    "ParseError": errors.SeriesError,
    "InvalidCount": IndexError,
    "UnknownName": KeyError,
    "NothingToUndo": RuntimeError,
    "TooMany": OverflowError,
    "Refused": ArithmeticError,
}
KEPT = {
    "ParseError": "spot",
    "InvalidCount": "value",
    "UnknownName": "name",
    "NothingToUndo": "wanted",
    "TooMany": "limit",
    "Refused": "reason",
}


class TestDerivation(Checks):
    def test_direct_base(self):
        for name, base in DERIVED.items():
            with self.subTest(name=name):
                self.assertEqual(getattr(errors, name).__bases__, (base,))

    def test_defined_here(self):
        for name in DERIVED:
            self.assertEqual(getattr(errors, name).__module__, "lawseries.errors")
            self.assertEqual(getattr(errors, name).__name__, name)

    def test_not_from_one_another(self):
        for name in DERIVED:
            for other in DERIVED:
                if other in (name, "SeriesError"):
                    continue
                with self.subTest(name=name, other=other):
                    self.assertFalse(issubclass(getattr(errors, name), getattr(errors, other)))

    def test_five_are_no_series_errors(self):
        for name in ("InvalidCount", "UnknownName", "NothingToUndo", "TooMany", "Refused"):
            self.assertFalse(issubclass(getattr(errors, name), errors.SeriesError))
            self.assertFalse(issubclass(getattr(errors, name), ValueError))

    def test_no_further_errors(self):
        found = [name for name, value in vars(errors).items() if isinstance(value, type)]
        self.assertEqual(sorted(found), sorted(DERIVED))


class TestWhatIsKept(Checks):
    def test_any_value(self):
        values = [
            0, 1, -5, True, None, "", "text", (), (1, "a"), [1], {"a": 1}, Ratio(1, 2), LONG,
            10 ** 5000, eight_deep(), errors.InvalidCount(1),
        ]
        for name, attribute in KEPT.items():
            for value in values:
                error = getattr(errors, name)(value)
                with self.subTest(name=name):
                    self.assertIs(getattr(error, attribute), value)
                    self.assertEqual(list(vars(error)), [attribute])

    def test_kept_when_raised(self):
        for name, attribute in KEPT.items():
            value = ["a"]
            with self.assertRaises(getattr(errors, name)) as caught:
                raise getattr(errors, name)(value)
            self.assertIs(getattr(caught.exception, attribute), value)

    def test_one_argument(self):
        for name in KEPT:
            for arguments in ((), (1, 2)):
                with self.subTest(name=name), self.assertRaises(TypeError):
                    getattr(errors, name)(*arguments)

    def test_messages(self):
        for name in ["SeriesError", *WITH_MESSAGE]:
            with self.subTest(name=name):
                self.assertEqual(str(getattr(errors, name)("some message")), "some message")

    def test_caught_as_the_base(self):
        for name, base in DERIVED.items():
            with self.subTest(name=name), self.assertRaises(base):
                raise getattr(errors, name)("x")

    def test_errors_are_not_iterable(self):
        for name in DERIVED:
            with self.subTest(name=name), self.assertRaises(TypeError):
                iter(getattr(errors, name)("x"))


if __name__ == "__main__":
    unittest.main()
