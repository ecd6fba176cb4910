"""Promise 1.3: ratios, and what 0.1 to 0.6 say of them."""

import inspect
import math
import re
import unittest
from fractions import Fraction

from lawseries import errors
from lawseries.base import ratios
from lawseries.base.ratios import MAX_FIGURES, Ratio
from tests.support import (
    LONG, SIXTY, Checks, long_integers, long_ratio, no_integers, no_ratios, other_kinds,
    some_ratios, some_strings, some_tuples,
)

PAIRS = [(top, bottom) for top in range(-7, 8) for bottom in range(-6, 7) if bottom]
LARGE = [(SIXTY, 1), (-SIXTY, 2), (1, SIXTY), (6 * 10 ** 58, -4 * 10 ** 58), (10 ** 59, 3 ** 125)]


def fraction(ratio):
    return Fraction(ratio.top, ratio.bottom)


def pieces(ratio):
    return (ratio.top, ratio.bottom)


class TestMaking(Checks):
    def test_constant(self):
        self.assertEqual(MAX_FIGURES, 60)
        self.assertEqual(ratios._TOO_LONG, 10 ** MAX_FIGURES)

    def test_interface(self):
        self.assertEqual(Ratio.__module__, "lawseries.base.ratios")
        names = [
            "read", "top", "bottom", "sign", "plus", "minus", "times", "over", "compared",
            "opposite", "__eq__", "__str__", "__init__",
        ]
        for name in names:
            self.assertIn(name, vars(Ratio))
        self.assertIsInstance(vars(Ratio)["read"], classmethod)
        for name in ("top", "bottom", "sign"):
            self.assertIsInstance(vars(Ratio)[name], property)
        self.assertEqual(list(inspect.signature(Ratio).parameters), ["top", "bottom"])

    def test_lowest_terms(self):
        for top, bottom in PAIRS + LARGE:
            with self.subTest(top=top, bottom=bottom):
                ratio, wanted = Ratio(top, bottom), Fraction(top, bottom)
                self.assertEqual(pieces(ratio), (wanted.numerator, wanted.denominator))
                self.assertGreaterEqual(ratio.bottom, 1)
                self.assertEqual(math.gcd(ratio.top, ratio.bottom), 1)
                self.assertEqual(ratio.sign, (top * bottom > 0) - (top * bottom < 0))

    def test_kinds_of_properties(self):
        for ratio in [Ratio(0), Ratio(3), Ratio(-3, 4), long_ratio()]:
            for value in (ratio.top, ratio.bottom, ratio.sign):
                self.assertIs(type(value), int)

    def test_zero(self):
        for bottom in (1, -1, 5, -SIXTY):
            self.assertEqual(pieces(Ratio(0, bottom)), (0, 1))
            self.assertEqual(Ratio(0, bottom).sign, 0)

    def test_bottom_is_1_if_left_out(self):
        self.assertEqual(pieces(Ratio(-5)), (-5, 1))

    def test_sixty_figures(self):
        self.assertEqual(pieces(Ratio(SIXTY, -SIXTY)), (-1, 1))
        self.assertEqual(pieces(Ratio(-SIXTY)), (-SIXTY, 1))
        self.assertEqual(pieces(Ratio(1, -SIXTY)), (-1, SIXTY))
        self.count_refused(LONG, Ratio, LONG)
        self.count_refused(-LONG, Ratio, -LONG, 5)
        self.count_refused(LONG, Ratio, 0, LONG)
        self.count_refused(-LONG, Ratio, LONG - 1, -LONG)

    def test_wrong_top(self):
        for value in no_integers():
            with self.subTest(value=repr(value)[:60]):
                self.count_refused(value, Ratio, value)
                self.count_refused(value, Ratio, value, 2)

    def test_wrong_bottom(self):
        for value in no_integers() + [0]:
            with self.subTest(value=repr(value)[:60]):
                self.count_refused(value, Ratio, 2, value)

    def test_the_first_wrong_one(self):
        for top in no_integers():
            for bottom in (0, True, None, "1", LONG, [1], Ratio(1)):
                self.count_refused(top, Ratio, top, bottom)

    def test_never_changes(self):
        ratio = Ratio(1, 2)
        for name in ("top", "bottom", "sign"):
            with self.assertRaises(AttributeError):
                setattr(ratio, name, 7)
        for call in (ratio.plus, ratio.minus, ratio.times, ratio.over, ratio.compared):
            call(Ratio(5, 3))
            call(-4)
        ratio.opposite()
        self.assertEqual(pieces(ratio), (1, 2))

    def test_not_iterable(self):
        with self.assertRaises(TypeError):
            iter(Ratio(1, 2))
        with self.assertRaises(TypeError):
            list(Ratio(1, 2))
        with self.assertRaises(TypeError):
            1 in Ratio(1, 2)


class TestReckoning(Checks):
    def some(self):
        return [Ratio(top, bottom) for top, bottom in PAIRS + LARGE] + [long_ratio()]

    def check_results(self, one, other, number):
        """The results for a ratio and another value that has the worth of a fraction."""
        first = fraction(one)
        self.check(one.plus(other), first + number)
        self.check(one.minus(other), first - number)
        self.check(one.times(other), first * number)
        if number:
            self.check(one.over(other), first / number)
        self.assertEqual(one.compared(other), (first > number) - (first < number))
        self.assertIs(type(one.compared(other)), int)

    def check(self, ratio, wanted):
        self.assertIs(type(ratio), Ratio)
        self.assertEqual(pieces(ratio), (wanted.numerator, wanted.denominator))

    def test_with_ratios(self):
        for one in self.some():
            for other in self.some():
                self.check_results(one, other, fraction(other))

    def test_with_integers(self):
        for one in self.some():
            for other in (0, 1, -1, 2, -6, SIXTY, -SIXTY):
                self.check_results(one, other, Fraction(other))

    def test_opposite(self):
        for one in self.some():
            self.check(one.opposite(), -fraction(one))

    def test_longer_than_sixty(self):
        long = long_ratio()
        self.assertGreater(long.top, LONG)
        self.assertGreater(long.bottom, LONG)
        self.check(long.plus(long), 2 * fraction(long))
        self.check(long.times(long).over(long), fraction(long))
        self.check(long.over(long), Fraction(1))
        self.check(long.minus(long), Fraction(0))
        self.assertEqual(long.compared(long), 0)
        self.assertEqual(long.compared(long.opposite()), 1)
        self.assertEqual(long.opposite().compared(long), -1)
        self.assertEqual((long.sign, long.opposite().sign), (1, -1))

    def test_its_long_top_is_refused_bare(self):
        long = long_ratio()
        self.count_refused(long.top, Ratio, long.top)
        self.count_refused(long.bottom, Ratio, 1, long.bottom)
        self.refused(errors.InvalidRatio, long.plus, long.top)

    def test_equal_calls(self):
        for one in self.some():
            self.assertEqual(one.plus(3), one.plus(3))
            self.assertEqual(one.times(Ratio(2, 3)), one.times(Ratio(2, 3)))

    def test_wrong_values(self):
        for ratio in (Ratio(1, 2), Ratio(0), long_ratio()):
            for call in (ratio.plus, ratio.minus, ratio.times, ratio.over, ratio.compared):
                for value in no_ratios():
                    with self.subTest(call=call.__name__, value=repr(value)[:60]):
                        self.refused(errors.InvalidRatio, call, value)

    def test_over_zero(self):
        for ratio in (Ratio(1, 2), Ratio(0), long_ratio()):
            for value in (0, Ratio(0), Ratio(0, -5), ratio.minus(ratio)):
                self.refused(errors.InvalidOperation, ratio.over, value)


class TestEqual(Checks):
    def test_equal_ratios(self):
        for top, bottom in PAIRS + LARGE:
            ratio = Ratio(top, bottom)
            self.assertIs(ratio == Ratio(ratio.top, ratio.bottom), True)
            self.assertIs(ratio != Ratio(ratio.top, ratio.bottom), False)
        self.assertIs(Ratio(2, -4) == Ratio(-1, 2), True)
        self.assertIs(long_ratio() == long_ratio(), True)
        self.assertIs(long_ratio() != long_ratio(), False)

    def test_unlike_ratios(self):
        found = [Ratio(1, 2), Ratio(-1, 2), Ratio(1, 3), Ratio(2), Ratio(0), Ratio(1), long_ratio()]
        for place, one in enumerate(found):
            for other in found[:place] + found[place + 1:]:
                self.assertIs(one == other, False)
                self.assertIs(one != other, True)

    def test_every_value(self):
        values = other_kinds() + some_strings() + some_tuples() + long_integers() + [0, 1, 2, 3]
        for ratio in (Ratio(0), Ratio(1), Ratio(2), Ratio(3), Ratio(1, 2), long_ratio()):
            for value in values:
                with self.subTest(ratio=str(ratio), value=repr(value)[:60]):
                    self.assertIs(ratio == value, False)
                    self.assertIs(ratio != value, True)
                    self.assertIs(value == ratio, False)
                    self.assertIs(value != ratio, True)

    def test_no_integer_is_equal(self):
        self.assertIs(Ratio(3) == 3, False)
        self.assertIs(Ratio(1) == True, False)  # noqa: E712
        self.assertIs(Ratio(0) == False, False)  # noqa: E712


class TestTexts(Checks):
    SIGNS = [chr(code) for code in range(32, 127)] + ["\n", "\t"]
    PATTERN = re.compile(r"(0|-?[1-9][0-9]*)(/([1-9][0-9]*))?", re.ASCII)

    def wanted(self, text):
        """The fraction whose text this is, told by a pattern; None if there is none."""
        found = self.PATTERN.fullmatch(text)
        if found is None:
            return None
        top, bottom = int(found[1]), int(found[3] or 1)
        lowest = math.gcd(top, bottom) == 1 and found[3] != "1"
        return Fraction(top, bottom) if lowest else None

    def check_read(self, text):
        wanted = self.wanted(text)
        if wanted is None:
            self.parse_refused(text)
        else:
            self.assertEqual(fraction(Ratio.read(text)), wanted)
            self.assertEqual(str(Ratio.read(text)), text)

    def parse_refused(self, value):
        error = self.refused(errors.ParseError, Ratio.read, value)
        self.assertIs(type(error.spot), int)
        self.assertEqual(error.spot, 0)

    def test_texts(self):
        told = {
            "0": Ratio(0, -7), "-3/4": Ratio(6, -8), "5": Ratio(5), "-5": Ratio(-5),
            "1/2": Ratio(1, 2), "-1": Ratio(3, -3), "7/3": Ratio(7, 3),
        }
        for text, ratio in told.items():
            self.assertEqual(str(ratio), text)
            self.assertEqual(Ratio.read(text), ratio)

    def test_of_each_ratio(self):
        for top, bottom in PAIRS + LARGE:
            ratio = Ratio(top, bottom)
            self.assertEqual(Ratio.read(str(ratio)), ratio)
            self.assertIs(type(Ratio.read(str(ratio))), Ratio)

    def test_texts_that_are_near(self):
        texts = ["0", "1", "-1", "10", "-3/4", "3/4", "12/35", "-120/7", "1/10", "-9/100"]
        for text in texts:
            for at in range(len(text) + 1):
                self.check_read(text[:at] + text[at + 1:])
                for sign in self.SIGNS:
                    self.check_read(text[:at] + sign + text[at:])
                    self.check_read(text[:at] + sign + text[at + 1:])

    def test_texts_of_no_ratio(self):
        texts = [
            "", "-", "/", "-/", "1/", "/2", "-/2", "+1", "--1", "-0", "00", "01", "-01", "1/02",
            "2/4", "4/2", "3/1", "0/1", "0/2", "1/0", "0/0", "1/-2", "-1/-2", "1/+2", " 1", "1 ",
            "1 /2", "1/ 2", "1/2\n", "\n1", "1_0", "1.0", "1.", ".5", "1e3", "0x1", "1/2/3", "1//2",
            "one", "1,000", "(1)", "1" * 4000, "1/" + "2" * 3998, "~" * 4000, "/" * 4000,
            "\u0661", "\u00b2", "1/\u0662", "\uff11",
        ]
        for text in texts:
            with self.subTest(text=text[:60]):
                self.assertIsNone(self.wanted(text) if len(text) < 100 else None)
                self.parse_refused(text)

    def test_sixty_figures(self):
        nines = "9" * 60
        self.assertEqual(Ratio.read(nines), Ratio(SIXTY))
        self.assertEqual(Ratio.read("-" + nines), Ratio(-SIXTY))
        self.assertEqual(Ratio.read("1/" + nines), Ratio(1, SIXTY))
        both = "-" + "9" * 59 + "8/" + nines
        self.assertEqual(Ratio.read(both), Ratio(1 - SIXTY, SIXTY))
        for text in (nines + "9", "-" + nines + "9", "1/" + nines + "9", "1" + "0" * 60):
            self.parse_refused(text)
        self.parse_refused("1" + "0" * 60 + "/3")
        self.parse_refused("0" + nines)

    def test_long_ratios(self):
        for ratio in (long_ratio(), long_ratio().opposite(), Ratio(SIXTY).plus(1)):
            self.assertEqual(str(ratio), str(fraction(ratio)))
            self.parse_refused(str(ratio))

    def test_text_of_4000_digits(self):
        ratio = Ratio(10 ** 59)
        for _ in range(67):
            ratio = ratio.times(Ratio(10 ** 59))
        wanted = "1" + "0" * (59 * 68)
        self.assertGreater(len(wanted), 4000)
        self.assertEqual(str(ratio), wanted)
        self.parse_refused(wanted[:4000])

    def test_every_other_value(self):
        for value in other_kinds() + some_tuples() + some_ratios() + long_integers() + [0, 1, -5]:
            with self.subTest(value=repr(value)[:60]):
                self.parse_refused(value)
        for text in some_strings():
            self.check_read(text)


if __name__ == "__main__":
    unittest.main()
