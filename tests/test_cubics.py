"""Promises 12.1 to 12.6 and 0.18: cubics, and what 0.1 to 0.11 say of them."""

import inspect
import itertools
import random
import unittest
from fractions import Fraction

from lawseries import errors
from lawseries.base.ratios import Ratio
from lawseries.cubic import cubics
from lawseries.cubic.cubics import TOLD, Cubic
from lawseries.double.doubles import Double
from lawseries.height.heights import height_of
from lawseries.law.laws import Law, is_law
from lawseries.log.logs import differential, is_log, log_of
from lawseries.row.rows import Row
from tests.support import (
    SIXTY, Checks, bad, long_ratio, no_counts, no_integers, no_objects, no_primes, no_ratios,
    others_than, package_objects,
)

PRIMES = [p for p in range(2, 98) if all(p % d for d in range(2, p))]
WANTED = {
    11: (0, -1, 1, 0, 0), 14: (1, 0, 1, -1, 0), 15: (1, 1, 1, 0, 0), 17: (1, -1, 1, -1, 0),
    19: (0, 1, 1, 1, 0), 20: (0, 1, 0, -1, 0), 21: (1, 0, 0, 1, 0), 24: (0, -1, 0, 1, 0),
    27: (0, 0, 1, 0, 0), 32: (0, 0, 0, -1, 0), 36: (0, 0, 0, 0, 1), 37: (0, 0, 1, -1, 0),
    49: (1, -1, 0, -2, -1),
}


def some_entries():
    """Entries of told cubics, of singular ones, of great ones and of some more."""
    source = random.Random("cubics")
    found = list(WANTED.values())
    found += [(0, 0, 0, 0, 0), (1, 0, 0, 0, 0), (0, 1, 0, 0, 0), (2, 0, 0, 0, 0), (0, 0, 0, -3, 2)]
    found += [(1000,) * 5, (-1000,) * 5, (1000, -1000, 999, -998, 1000), (0, 0, 0, 6, 0), (0, 0, 0, 0, 30)]
    return found + [tuple(source.randrange(-9, 10) for _ in range(5)) for _ in range(8)]


def some_cubics():
    return [Cubic(*entries) for entries in some_entries()]


def slow_w(cubic, degree):
    """w(z), by putting it into its equation again and again."""
    a1, a2, a3, a4, a6 = cubic.told_entries
    z = Row((0, 1) + (0,) * (degree - 1))
    w = z.scaled(0)
    for _ in range(degree + 1):
        square = w.times(w)
        w = (z.raised(3).plus(z.times(w).scaled(a1)).plus(z.times(z).times(w).scaled(a2))
             .plus(square.scaled(a3)).plus(z.times(square).scaled(a4)).plus(square.times(w).scaled(a6)))
    return w


class TestInterface(Checks):
    def test_interface(self):
        self.assertEqual((cubics.MAX_ENTRY, cubics.MAX_COUNTED, TOLD), (1000, 97, WANTED))
        told = {
            Cubic: "(a1, a2, a3, a4, a6)", Cubic.told: "(level)", Cubic.w_row: "(self, degree)",
            Cubic.differential_row: "(self, degree)", Cubic.log_row: "(self, degree)",
            Cubic.law_by_log: "(self, degree)", Cubic.law_by_lines: "(self, degree)",
            Cubic.trace_at: "(self, prime)", Cubic.kind_at: "(self, prime)",
            Cubic.height_at: "(self, prime)", Cubic.holds_at: "(self, one, other)",
        }
        for call, signature in told.items():
            self.assertEqual(call.__module__, "lawseries.cubic.cubics")
            self.assertEqual(str(inspect.signature(call)), signature)
            if call is not Cubic:
                self.assertIn(call.__name__, vars(Cubic))
        for name in ("told_entries", "discriminant", "second", "__eq__", "__str__"):
            self.assertIn(name, vars(Cubic))


class TestCubics(Checks):
    def test_invariants(self):
        """12.1."""
        for entries in some_entries():
            a1, a2, a3, a4, a6 = entries
            b2, b4, b6 = a1 ** 2 + 4 * a2, 2 * a4 + a1 * a3, a3 ** 2 + 4 * a6
            b8 = a1 ** 2 * a6 + 4 * a2 * a6 - a1 * a3 * a4 + a2 * a3 ** 2 - a4 ** 2
            cubic = Cubic(*entries)
            self.assertEqual(cubic.told_entries, entries)
            self.assertEqual(cubic.second, b2 ** 2 - 24 * b4)
            self.assertEqual(cubic.discriminant, -b2 ** 2 * b8 - 8 * b4 ** 3 - 27 * b6 ** 2 + 9 * b2 * b4 * b6)
            self.assertEqual(str(cubic), "cubic {} {} {} {} {}".format(*entries))
            # 1728 times the discriminant is the cube of the second number less a square.
            c6 = -b2 ** 3 + 36 * b2 * b4 - 216 * b6
            self.assertEqual(1728 * cubic.discriminant, cubic.second ** 3 - c6 ** 2)

    def test_told(self):
        for level, entries in WANTED.items():
            self.assertEqual(Cubic.told(level), Cubic(*entries))
            bad_primes = [p for p in PRIMES if Cubic.told(level).discriminant % p == 0]
            self.assertEqual(bad_primes, [p for p in PRIMES if level % p == 0])
        levels = no_integers() + package_objects() + [0, 1, 12, -11, 50, SIXTY]
        self.check_errors(Cubic.told, (49,), [bad(errors.InvalidCount, levels)])

    def test_errors(self):
        wrong = no_integers() + package_objects() + [1001, -1001, SIXTY, -SIXTY]
        wrong = bad(errors.InvalidCubic, wrong)
        self.check_errors(Cubic, (1000, -1000, 0, 1, -1), [wrong] * 5)

    def test_equal(self):
        for one, other in itertools.product(some_entries(), repeat=2):
            self.assertIs(Cubic(*one) == Cubic(*other), one == other)
            self.assertIs(Cubic(*one) != Cubic(*other), one != other)
        cubic = Cubic(0, 0, 1, 0, 0)
        for value in no_objects() + others_than(Cubic) + [(0, 0, 1, 0, 0), "cubic 0 0 1 0 0"]:
            self.assertIs(cubic == value, False)
            self.assertIs(value != cubic, True)
        with self.assertRaises(TypeError):
            iter(cubic)


class TestRows(Checks):
    def test_w(self):
        """12.2: just one row without entries at 0, 1 and 2 fits into the equation."""
        for cubic in some_cubics():
            wanted = slow_w(cubic, 20)
            self.assertEqual(cubic.w_row(20), wanted)
            self.assertTrue(wanted.is_whole)
            self.assertEqual(wanted.order, 3)
            for degree in (3, 4, 9, 19):
                self.assertEqual(cubic.w_row(degree), wanted.cut(degree))

    def test_differential(self):
        """12.2: by powers of 1 / z, with w = z ** 3 / g."""
        for cubic in some_cubics():
            a1, _, a3, _, _ = cubic.told_entries
            w, degree = slow_w(cubic, 23), 20
            g = Row(w.entries[3:]).reciprocal()
            z = Row.plain(degree)
            above = Row(tuple(entry.times(n - 2) for n, entry in enumerate(g.entries)))
            below = g.scaled(-2).plus(z.times(g).scaled(a1)).plus(z.raised(3).scaled(a3))
            wanted = above.times(below.reciprocal())
            self.assertEqual(cubic.differential_row(degree), wanted)
            self.assertTrue(wanted.is_whole)
            for lesser in (3, 4, 11, 19):
                self.assertEqual(cubic.differential_row(lesser), wanted.cut(lesser))

    def test_logs(self):
        for cubic in some_cubics():
            told = cubic.differential_row(11)
            for degree in range(2, 13):
                log = cubic.log_row(degree)
                self.assertIs(is_log(log), True)
                self.assertEqual(log, told.cut(degree - 1).summed_up())

    def test_errors(self):
        cubic = Cubic.told(11)
        counts = bad(errors.InvalidCount, no_counts(3, 20) + [2, 21, 24])
        for call in (cubic.w_row, cubic.differential_row):
            for good in (3, 20):
                self.check_errors(call, (good,), [counts])
        counts = bad(errors.InvalidCount, no_counts(2, 12) + [1, 13, 20])
        for call in (cubic.log_row, cubic.law_by_log, cubic.law_by_lines):
            for good in (2, 12):
                self.check_errors(call, (good,), [counts])


class TestLaws(Checks):
    def test_both_ways(self):
        """12.2, 12.3 and 0.18: a whole law, by its log and by lines."""
        for cubic in some_cubics():
            a1, a2, _, _, _ = cubic.told_entries
            for degree in (2, 3, 4, 6, 9, 12):
                given = cubic.law_by_log(degree)
                self.assertEqual((given.degree, given.modulus, given.is_whole), (degree, 0, True))
                self.assertEqual(given, cubic.law_by_lines(degree))
                self.assertEqual(log_of(given), cubic.log_row(degree))
                self.assertEqual(given.double.at(1, 1), Ratio(-a1))
                if degree > 2:
                    self.assertEqual(given.double.at(1, 2), Ratio(-a2))
                    self.assertEqual(differential(given), cubic.differential_row(11).cut(degree - 1))
            self.assertIs(is_law(cubic.law_by_lines(6).double), True)
            self.assertIsInstance(cubic.law_by_lines(2), Law)

    def test_points(self):
        """The sum of two points of a curve, put into the laws: -x / y for small z, modulo 5 ** k."""
        # y ** 2 + y = x ** 3 - x: the multiples of (0, 0) that are 0 modulo 2, by chords.
        cubic = Cubic(0, 0, 1, -1, 0)
        points = [(Fraction(0), Fraction(0))]
        for _ in range(14):
            points.append(added(points[-1], points[0]))
        for x, y in points:
            told = Ratio(x.numerator, x.denominator), Ratio(y.numerator, y.denominator)
            self.assertIs(cubic.holds_at(*told), True)
        near = [point for point in points if point[0].denominator % 2 == 0]
        self.assertGreaterEqual(len(near), 2)
        one, other = near[0], near[1]
        x, y = [-p[0] / p[1] for p in (one, other)]
        total = added(one, other)
        wanted = -total[0] / total[1]
        double = cubic.law_by_lines(12).double
        found = sum(entry.top * x ** i * y ** j for (i, j), entry in double.entries.items())
        self.assertEqual((found - wanted).numerator % 2 ** 12, 0)
        self.assertEqual((found - wanted).denominator % 2, 1)

    def test_singular_ones(self):
        """12.2: also if the discriminant is 0."""
        self.assertEqual(Cubic(0, 0, 0, 0, 0).law_by_log(12), Law.additive(12))
        for a in (1, -3, 1000):
            self.assertEqual(Cubic(a, 0, 0, 0, 0).law_by_lines(12), Law.multiplicative(12, -a))
            self.assertEqual(Cubic(a, 0, 0, 0, 0).discriminant, 0)
        self.assertEqual(Cubic(0, 7, 0, 0, 0).law_by_log(5), Law.quadric(5, 0, 7))

    def test_not_true(self):
        """12.6."""
        one, other = Cubic(0, 0, 0, 0, 0), Cubic(1, 0, 0, 0, 0)
        self.assertEqual(one.discriminant, other.discriminant)
        self.assertNotEqual(one.law_by_log(2), other.law_by_log(2))
        # The second one is the first one with x + 1 in the place of x.
        one, other = Cubic(0, 0, 0, -1, 0), Cubic(0, 3, 0, 2, 0)
        self.assertEqual((one.discriminant, other.discriminant), (64, 64))
        self.assertNotEqual(one.law_by_log(4), other.law_by_log(4))
        eleven = Cubic.told(11)
        self.assertEqual((eleven.trace_at(2), eleven.height_at(2)), (-2, 2))
        five = Cubic(1, 0, 0, 0, 0)
        self.assertEqual(Cubic(0, 0, 0, 0, 0).trace_at(5), 0)
        self.assertIsNone(Cubic(0, 0, 0, 0, 0).height_at(5))
        self.assertEqual(five.height_at(5), 1)


def added(one, other):
    """The sum of two points of y ** 2 + y = x ** 3 - x, by the line through them."""
    (x, y), (s, t) = one, other
    slope = (3 * x * x - 1) / (2 * y + 1) if one == other else (t - y) / (s - x)
    third = slope * slope - x - s
    return third, -(y + slope * (third - x)) - 1


class TestPrimes(Checks):
    def test_traces(self):
        """12.4, by all pairs."""
        for cubic in some_cubics():
            a1, a2, a3, a4, a6 = cubic.told_entries
            for p in PRIMES[:8]:
                many = sum((y * y + a1 * x * y + a3 * y - x ** 3 - a2 * x * x - a4 * x - a6) % p == 0
                           for x in range(p) for y in range(p))
                self.assertEqual(cubic.trace_at(p), p - many)

    def test_kinds(self):
        """12.4: kinds, and what they tell of the trace."""
        seen = set()
        for cubic, p in itertools.product(some_cubics(), PRIMES):
            kind, trace = cubic.kind_at(p), cubic.trace_at(p)
            if cubic.discriminant % p:
                self.assertEqual(kind, "good")
                self.assertLessEqual(trace * trace, 4 * p)
            elif cubic.second % p:
                self.assertEqual(kind, "node")
                self.assertIn(trace, (1, -1))
            else:
                self.assertEqual((kind, trace), ("cusp", 0))
            seen.add((kind, p < 4))
        self.assertEqual(len(seen), 6)

    def test_known_traces(self):
        told = {11: [-2, -1, 1, -2, 1, 4, -2, 0, -1, 0, 7], 37: [-2, -3, -2, -1, -5, -2, 0, 0, 2, 6, -4]}
        for level, traces in told.items():
            self.assertEqual([Cubic.told(level).trace_at(p) for p in PRIMES[:11]], traces)
        for p in PRIMES:
            # Cubes, or the squares of 1 to p - 1 and their opposites, make the sums 0.
            self.assertEqual(Cubic.told(27).trace_at(p) if p % 3 == 2 else 0, 0)
            self.assertEqual(Cubic.told(32).trace_at(p) if p % 4 == 3 else 0, 0)

    def test_by_the_differential(self):
        """12.5: the entry at p - 1 leaves the trace modulo p."""
        for cubic in some_cubics():
            told = cubic.differential_row(20)
            for p in PRIMES[:8]:
                self.assertEqual((told.at(p - 1).top - cubic.trace_at(p)) % p, 0)

    def test_congruences(self):
        """12.5, where the kind is good."""
        for cubic in some_cubics():
            c = [0] + [entry.top for entry in cubic.differential_row(20)]
            for p in PRIMES[:8]:
                if cubic.kind_at(p) == "good":
                    trace = cubic.trace_at(p)
                    for n in range(1, 21 // p + 1):
                        power = p
                        while n * p % (power * p) == 0:
                            power *= p
                        lower = c[n // p] if n % p == 0 else 0
                        self.assertEqual((c[n * p] - trace * c[n] + p * lower) % power, 0)

    def test_heights(self):
        """12.5: by the trace and by the law, as far as its degree tells."""
        seen = set()
        for cubic, p in itertools.product(some_cubics(), PRIMES):
            told, kind = cubic.height_at(p), cubic.kind_at(p)
            if kind == "cusp":
                self.assertIsNone(told)
            elif kind == "node":
                self.assertEqual(told, 1)
            else:
                self.assertEqual(told, 2 if cubic.trace_at(p) % p == 0 else 1)
            if p <= 11:
                given = cubic.law_by_log(12).led(p)
                shown = told is not None and p ** told <= 12
                self.assertEqual(height_of(given), told if shown else None)
                seen.add((p, told))
        for p in (2, 3):
            self.assertLessEqual({(p, 1), (p, 2), (p, None)}, seen)

    def test_errors(self):
        cubic = Cubic.told(11)
        primes = no_primes() + bad(errors.InvalidPrime, [101, 103, 997, 98, 96])
        for call in (cubic.trace_at, cubic.kind_at, cubic.height_at):
            for good in (2, 97):
                self.check_errors(call, (good,), [primes])


class TestPoints(Checks):
    def test_holds(self):
        for cubic in some_cubics():
            a1, a2, a3, a4, a6 = cubic.told_entries
            for x, y in itertools.product([Fraction(n, d) for n in range(-3, 4) for d in (1, 2, 4, 9)], repeat=2):
                held = y * y + a1 * x * y + a3 * y == x ** 3 + a2 * x * x + a4 * x + a6
                one, other = Ratio(x.numerator, x.denominator), Ratio(y.numerator, y.denominator)
                self.assertIs(cubic.holds_at(one, other), held)
                if x.denominator == 1:
                    self.assertIs(cubic.holds_at(int(x), other), held)

    def test_long_ones(self):
        cube, square = Ratio(SIXTY), Ratio(SIXTY).times(SIXTY)
        self.assertIs(Cubic(0, 0, 0, 0, 0).holds_at(square, cube.times(square)), True)
        self.assertIs(Cubic(0, 0, 0, 0, 1).holds_at(square, cube.times(square)), False)

    def test_errors(self):
        wrong = bad(errors.InvalidRatio, no_ratios() + package_objects())
        self.check_errors(Cubic.told(11).holds_at, (SIXTY, long_ratio()), [wrong, wrong])

    def test_double_rows_are_no_cubics(self):
        self.assertIs(Cubic.told(11) == Double(2, {}), False)


if __name__ == "__main__":
    unittest.main()
