"""Promises 7.1 to 7.6 and 0.15: rows between laws, and what 0.1 to 0.10 say of them."""

import inspect
import itertools
import math
import types
import unittest

from lawseries import errors
from lawseries.base.numbers import is_prime, prime_powers, step_divisor
from lawseries.base.ratios import Ratio
from lawseries.between.rows_between import (
    MAX_TRIED, alike_row, are_strictly_alike, count_between, is_between, row_between, row_fault,
    rows_modulo, strict_row,
)
from lawseries.double.doubles import Double
from lawseries.law.laws import Law
from lawseries.log.logs import exp_of, law_of_log, log_of
from lawseries.row.rows import Row
from lawseries.step.steps import law_of_steps, laws_modulo, moved_by
from tests.reference import letter, of_double, of_row, some_laws, some_log, some_row
from tests.support import (
    Checks, bad, long_ratio, no_objects, no_ratios, others_than, package_objects,
)

FIRSTS = [0, 1, -1, 3, Ratio(1, 2), Ratio(-2, 3)]


def no_laws():
    return bad(errors.InvalidLaw, others_than(Law))


def unlike_moduli():
    two, five = Law.additive(2), Law.additive(2, modulus=5)
    return [(two, five), (five, two), (five, Law.additive(3, modulus=10))]


def leads(one, other, row):
    """By the definition, whether a curve leads from one law to another one."""
    degree, modulus = row.degree, row.modulus
    x, y = letter(0, 2, degree, modulus), letter(1, 2, degree, modulus)
    curve = of_row(row)
    left = curve.of(of_double(one.double).cut(degree))
    return left == of_double(other.double).cut(degree).of(curve.of(x), curve.of(y))


def whole_laws():
    steps = [(1, 0, -1, 2), (1, 0, -1, 7), (1, 2, -1, 2), (0, 0, 0), (-1, 1, -1, 1, -1), (0, 0, 1)]
    return [law_of_steps(told) for told in steps] + [Law.multiplicative(6, 3), Law.quadric(5, 1, 2)]


class TestRows(Checks):
    def test_interface(self):
        self.assertEqual(MAX_TRIED, 20000)
        told = {
            is_between: "(one, other, value)", row_between: "(one, other, first)",
            strict_row: "(one, other)", are_strictly_alike: "(one, other)", row_fault: "(row)",
            rows_modulo: "(one, other)", count_between: "(one, other)", alike_row: "(one, other)",
        }
        for call, signature in told.items():
            self.assertEqual(call.__module__, "lawseries.between.rows_between")
            self.assertEqual(str(inspect.signature(call)), signature)

    def test_row_between(self):
        """7.2: the row with a first entry, by its definition and by exp and log."""
        for one, other in itertools.product(some_laws(0), repeat=2):
            degree = min(one.degree, other.degree)
            for first in FIRSTS:
                row = row_between(one, other, first)
                self.assertIs(type(row), Row)
                self.assertEqual((row.degree, row.modulus), (degree, 0))
                self.assertEqual(row.at(1), Ratio(0).plus(first))
                self.assertIs(is_between(one, other, row), True)
                told = exp_of(other).cut(degree).put_in(log_of(one).cut(degree).scaled(first))
                self.assertEqual(row, told)
            self.assertEqual(strict_row(one, other), row_between(one, other, 1))

    def test_by_the_definition(self):
        for one, other in itertools.product(some_laws(0)[2:9:2], repeat=2):
            for first in FIRSTS[1:4]:
                self.assertTrue(leads(one, other, row_between(one, other, first)))

    def test_just_one(self):
        for one, other in itertools.product(some_laws(0)[1:5], repeat=2):
            row = row_between(one, other, 2)
            for at in range(2, row.degree + 1):
                entries = list(row.entries)
                entries[at] = entries[at].plus(Ratio(1, 3))
                self.assertIs(is_between(one, other, Row(tuple(entries))), False)

    def test_back_and_sums(self):
        """7.1 and 7.2."""
        for one, other, third in itertools.product(some_laws(0)[1:9:2], repeat=3):
            first, second = row_between(one, other, 3), row_between(one, other, Ratio(1, 2))
            self.assertIs(is_between(one, other, other.sum_of(first, second)), True)
            self.assertEqual(other.sum_of(first, second), row_between(one, other, Ratio(7, 2)))
            degree = min(one.degree, other.degree)
            self.assertEqual(first.turned_back(), row_between(other, one, Ratio(1, 3)))
            onward = row_between(other, third, -2)
            chained = onward.put_in(first)
            wanted = row_between(one.cut(chained.degree), third, -6)
            self.assertEqual(chained, wanted)
            self.assertEqual(first.degree, degree)

    def test_changed_laws(self):
        for modulus in (0, 4, 5):
            for given in some_laws(modulus):
                row = some_row(7, given.degree, modulus, (0, -1))
                self.assertIs(is_between(given, given.changed(row), row), True)
                for number in (-3, 0, 2, 10):
                    self.assertIs(is_between(given, given, given.multiple(number)), True)

    def test_long_first(self):
        row = row_between(Law.multiplicative(3, 1), Law.quadric(4, 1, 2), long_ratio())
        self.assertEqual(row.at(1), long_ratio())
        self.assertIs(is_between(Law.multiplicative(3, 1), Law.quadric(4, 1, 2), row), True)

    def test_is_between(self):
        times, plus = Law.multiplicative(6, 1), Law.additive(4)
        good = strict_row(times, plus)
        self.assertIs(is_between(times, plus, good), True)
        none = [
            good.cut(3), strict_row(times, Law.additive(5)), Row(good.entries + (0,)), Row.plain(4),
            good.plus(Row((1, 0, 0, 0, 0))), Row((0,)), Row((0, 0)), good.entries, times, plus.double,
            Row((0, 0, 0, 0, 0), modulus=5),
        ]
        for value in none + no_objects() + package_objects():
            self.assertIs(is_between(times, plus, value), False)
        self.assertIs(is_between(times, plus, Row((0,) * 5)), True)
        five = times.led(5)
        self.assertIs(is_between(five, five, Row.plain(6, modulus=5)), True)
        self.assertIs(is_between(five, five, Row.plain(6)), False)
        self.assertIs(is_between(times, times, Row.plain(6, modulus=5)), False)
        then = [(errors.InvalidOperation, pair + (1,)) for pair in unlike_moduli()]
        self.check_errors(is_between, (plus, plus, 1), [no_laws(), no_laws(), []], then)

    def test_errors(self):
        plus, five = Law.additive(2), Law.additive(2, modulus=5)
        then = [(errors.InvalidOperation, pair) for pair in unlike_moduli() + [(five, five)]]
        self.check_errors(strict_row, (plus, plus), [no_laws(), no_laws()], then)
        firsts = bad(errors.InvalidRatio, no_ratios() + package_objects())
        wrong = [no_laws(), no_laws(), firsts]
        then = [(errors.InvalidOperation, (five, five, 1))]
        self.check_errors(row_between, (plus, plus, Ratio(1, 2)), wrong, then)
        for one, other in unlike_moduli():
            for value in [1] + [value for _, value in firsts]:
                self.refused(errors.InvalidOperation, row_between, one, other, value)


class TestStrictlyAlike(Checks):
    def test_by_the_strict_row(self):
        """7.3 and 0.15."""
        found = whole_laws()
        for one, other in itertools.product(found, repeat=2):
            alike = are_strictly_alike(one, other)
            self.assertIs(alike, strict_row(one, other).is_whole)
            self.assertIs(are_strictly_alike(other, one), alike)
            for third in found:
                degree = min(one.degree, other.degree, third.degree)
                cut = [given.cut(degree) for given in (one, other, third)]
                if are_strictly_alike(cut[0], cut[2]) and are_strictly_alike(cut[2], cut[1]):
                    self.assertIs(are_strictly_alike(cut[0], cut[1]), True)

    def test_changed_laws(self):
        for given in whole_laws():
            row = Row((0, 1, 3, -2, 5))
            self.assertIs(are_strictly_alike(given, given.changed(row)), True)

    def test_faults(self):
        """7.4: the index is a power of the prime, and the bottom is the prime."""
        seen = set()
        for one, other in itertools.product(whole_laws(), repeat=2):
            row = strict_row(one, other)
            told = row_fault(row)
            self.assertIs(told is None, row.is_whole)
            if told is not None:
                index, prime = told
                seen.add(prime)
                self.assertEqual(list(prime_powers(index)), [prime])
                self.assertEqual(row.at(index).bottom, prime)
                self.assertTrue(row.cut(index - 1).is_whole)
        self.assertLessEqual({2, 3}, seen)

    def test_equal_below(self):
        """7.4: of laws that agree up to n - 1."""
        for given in whole_laws():
            n = given.degree
            for number in (1, 2, -3):
                row = strict_row(given, moved_by(given, number))
                self.assertEqual(row.cut(n - 1), Row.plain(n - 1))
                self.assertEqual(step_divisor(n) % row.at(n).bottom, 0)

    def test_errors(self):
        five, half = Law.additive(2, modulus=5), law_of_log(Row((0, 1, 0, Ratio(1, 2))))
        plus = Law.additive(2)
        pairs = unlike_moduli() + [(five, five), (half, plus), (plus, half), (half, half)]
        then = [(errors.InvalidOperation, pair) for pair in pairs]
        self.check_errors(are_strictly_alike, (plus, plus), [no_laws(), no_laws()], then)
        self.assertIs(are_strictly_alike(half.cut(2), plus), True)

    def test_row_fault(self):
        told = [
            (Row((0, 1, 2)), None), (Row((Ratio(1, 2), 1)), (0, 2)), (Row((0, Ratio(5, 9))), (1, 3)),
            (Row((1, 1, 1, Ratio(1, 1009))), (3, None)), (Row((1, Ratio(1, 1009 * 997))), (1, 997)),
            (Row((1, Ratio(1, 30), Ratio(1, 2))), (1, 2)), (Row((0, Ratio(1, 35), Ratio(1, 2))), (1, 5)),
            (Row((0,) * 24 + (Ratio(1, 10 ** 9 + 7),)), (24, None)),
        ]
        for row, wanted in told:
            self.assertEqual(row_fault(row), wanted)
        then = [(errors.InvalidOperation, (Row((0, 1), modulus=5),))]
        self.check_errors(row_fault, (Row((3,)),), [bad(errors.InvalidRow, others_than(Row))], then)


class TestModulo(Checks):
    def by_trying(self, one, other):
        degree, modulus = min(one.degree, other.degree), one.modulus
        found = []
        for entries in itertools.product(range(modulus), repeat=degree):
            row = Row((0,) + entries, modulus=modulus)
            if is_between(one, other, row):
                found.append(row)
        return found

    def pairs(self):
        for degree, modulus in ((2, 2), (3, 2), (4, 2), (3, 3), (2, 6), (3, 4), (2, 9)):
            laws = list(laws_modulo(degree, modulus))
            laws = laws[::max(1, len(laws) // 4)]
            yield from itertools.product(laws, repeat=2)
            longer = law_of_steps((1, 1, 1, 1)).led(modulus)
            yield from ((laws[0], longer), (longer, laws[-1]))

    def test_all_rows(self):
        for one, other in self.pairs():
            degree, modulus = min(one.degree, other.degree), one.modulus
            found, wanted = list(rows_modulo(one, other)), self.by_trying(one, other)
            self.assertEqual(found, wanted)
            self.assertEqual([row.degree for row in found], [degree] * len(found))
            self.assertEqual(count_between(one, other), len(wanted))
            self.assertEqual(modulus ** degree % len(wanted), 0)
            units = [row for row in wanted if math.gcd(row.at(1), modulus) == 1]
            told = alike_row(one, other)
            if units:
                self.assertIn(told, units)
            else:
                self.assertIsNone(told)

    def test_trying_by_the_definition(self):
        one, other = Law.multiplicative(3, 1, modulus=2), law_of_steps((1, 1), modulus=2)
        for entries in itertools.product(range(2), repeat=3):
            row = Row((0,) + entries, modulus=2)
            self.assertIs(is_between(one, other, row), leads(one, other, row))

    def test_least_index(self):
        """7.5: modulo a prime the least index is a power of it."""
        for one, other in self.pairs():
            if is_prime(one.modulus):
                for row in rows_modulo(one, other):
                    power = 1
                    while row.order is not None and power < row.order:
                        power = power * one.modulus
                    self.assertIn(row.order, (None, power))

    def test_what_is_led(self):
        one, other = law_of_steps((1, 0, -1)), law_of_steps((1, 0, 3))
        self.assertIs(is_between(one.led(2), other.led(2), strict_row(one, other).led(2)), True)

    def test_bounds(self):
        for degree, modulus in ((12, 2), (9, 3), (7, 4), (2, 141), (4, 11)):
            plus = Law.additive(degree, modulus=modulus)
            found = list(rows_modulo(plus, plus))
            self.assertEqual(modulus ** degree % len(found), 0)
            self.assertEqual(found[0], Row((0,) * (degree + 1), modulus=modulus))
            self.assertIs(is_between(plus, plus, found[-1]), True)
        self.assertEqual(count_between(Law.additive(12, modulus=2), Law.additive(12, modulus=2)), 16)
        large = Law.additive(12, modulus=141)
        self.assertEqual(count_between(large, Law.additive(2, modulus=141)), 141)

    def test_generator(self):
        two = Law.additive(3, modulus=2)
        self.assertIsInstance(rows_modulo(two, two), types.GeneratorType)
        late = rows_modulo(None, 5)
        with self.assertRaises(errors.InvalidLaw):
            next(late)

    def test_errors(self):
        two = Law.additive(2, modulus=2)
        pairs = unlike_moduli() + [(Law.additive(2), Law.additive(2))]
        for call in (lambda one, other: list(rows_modulo(one, other)), count_between, alike_row):
            then = [(errors.InvalidOperation, pair) for pair in pairs]
            for degree, modulus in ((2, 142), (10, 3), (5, 8), (12, 3), (12, 10000)):
                given = Law.additive(degree, modulus=modulus)
                then.append((errors.TooMany, (given, given)))
                self.assertEqual(self.refused(errors.TooMany, call, given, given).limit, 20000)
            self.check_errors(call, (two, two), [no_laws(), no_laws()], then)


class TestNotTrue(Checks):
    """7.6: what is not true."""

    def test_back_of_a_whole_row(self):
        row = row_between(Law.multiplicative(6, 3), Law.multiplicative(6, 1), 3)
        self.assertEqual(row, Row((0, 3, 0, 0, 0, 0, 0)))
        self.assertIs(row.turned_back().is_whole, False)

    def test_alike_modulo_a_prime(self):
        one, other = Law.multiplicative(3, 1, modulus=2), Law.additive(3, modulus=2)
        self.assertEqual([row.entries for row in rows_modulo(one, other)], [(0, 0, 0, 0), (0, 0, 1, 0)])
        self.assertIsNone(alike_row(one, other))

    def test_entries_at_primes(self):
        one = law_of_steps((1, 0, 0))
        row = strict_row(one, moved_by(one, 1))
        self.assertTrue(all(row.at(prime).bottom == 1 for prime in (2, 3)))
        self.assertIs(row.is_whole, False)

    def test_logs_between(self):
        """7.2: the log is the strict row to x + y."""
        for seed in range(3):
            log = some_log(seed, 5)
            self.assertEqual(strict_row(law_of_log(log), Law.additive(5)), log)
        self.refused(errors.InvalidLaw, strict_row, Double(2, {}), Law.additive(2))


if __name__ == "__main__":
    unittest.main()
