"""Promises 16.1 to 16.6: numbers of Bernoulli, and what 0.1 to 0.11 say of them."""

import inspect
import itertools
import math
import unittest
from fractions import Fraction

from lawseries import errors
from lawseries.base.numbers import valuation
from lawseries.base.ratios import Ratio
from lawseries.double.doubles import Double
from lawseries.law.laws import Law
from lawseries.log.logs import exp_of, is_log, is_whole_log, law_of_log, log_of
from lawseries.number.bernoullis import (
    bottom_bound, is_of_integers, log_of_numbers, number_at, numbers_of, residue_at, scaled_log,
)
from lawseries.part.parts import is_whole_at
from lawseries.row.rows import Row
from lawseries.step.steps import log_of_steps
from tests.reference import fraction, some_laws, some_log, some_row
from tests.support import (
    LONG, SIXTY, Checks, bad, long_ratio, no_counts, no_logs, no_objects, no_primes, no_ratios,
    no_tuples, package_objects,
)

PRIMES = (2, 3, 5, 7, 11, 13)


def log_of_integers(numbers):
    """The log with c(1), c(2), .. as the entries of its derivative."""
    return Row((0, 1, *[Ratio(c, n) for n, c in enumerate(numbers, start=2)]))


def logs_of_integers():
    """Logs of integers, of whole laws and of others."""
    found = [log_of_steps(steps) for steps in ((1, 0, -1, 2), (0,), (-1, 2) * 5 + (1,), tuple(range(-5, 6)))]
    found += [log_of(Law.multiplicative(12, c)) for c in (1, -1, 2)] + [log_of(Law.quadric(11, 1, -2))]
    for seed in range(12):
        row = [entry.top for entry in some_row(seed, 2 + seed % 9).entries]
        found.append(log_of_integers(row))
    return found + [log_of_integers((SIXTY,) * 11), Row.plain(2), Row.plain(12)]


def other_logs():
    found = [some_log(seed, degree) for seed, degree in ((1, 2), (2, 5), (4, 9), (6, 12))]
    return found + [Row((0, 1, Ratio(1, 4))), Row((0, 1, 0, Ratio(1, 9))), Row((0, 1, Ratio(1, 3), 0, 0))]


def derived(log):
    return [fraction(entry) for entry in log.derived().entries]


class TestInterface(Checks):
    def test_interface(self):
        told = {
            is_of_integers: "(value)", numbers_of: "(log)", number_at: "(log, place)",
            log_of_numbers: "(numbers)", bottom_bound: "(place)",
            residue_at: "(log, prime, place)", scaled_log: "(log, number)",
        }
        for call, signature in told.items():
            self.assertEqual(call.__module__, "lawseries.number.bernoullis")
            self.assertEqual(str(inspect.signature(call)), signature)


class TestNumbers(Checks):
    def test_of_integers(self):
        for log in logs_of_integers():
            self.assertIs(is_of_integers(log), True)
        for log in other_logs() + [log_of(given) for given in some_laws(0)]:
            whole = all(number.denominator == 1 for number in derived(log))
            self.assertIs(is_of_integers(log), whole)
            if is_whole_log(log):
                self.assertIs(whole, True)
        for value in [value for _, value in no_logs()] + no_objects() + package_objects():
            self.assertIs(is_of_integers(value), False)
        for value in (Row((0, 1, 1), modulus=5), Row((0, 1)), Row((0, 2, 1)), Double(2, {(0, 1): 1})):
            self.assertIs(is_of_integers(value), False)

    def test_numbers(self):
        """16.1: the row x / e(x), by its definition."""
        for log in logs_of_integers() + other_logs():
            numbers = numbers_of(log)
            self.assertEqual((type(numbers), len(numbers), numbers[0]), (tuple, log.degree, Ratio(1)))
            row = Row(tuple(number.over(math.factorial(n)) for n, number in enumerate(numbers)))
            back = Row(exp_of(law_of_log(log)).entries[1:])
            self.assertEqual(row.times(back), Row((1,) + (0,) * row.degree))
            self.assertEqual([number_at(log, n) for n in range(log.degree)], list(numbers))
            c = derived(log)
            self.assertEqual(fraction(numbers[1]), c[1] / 2)
            if log.degree > 2:
                self.assertEqual(fraction(numbers[2]), Fraction(2, 3) * c[2] - c[1] ** 2 / 2)

    def test_bernoulli(self):
        numbers = numbers_of(log_of(Law.multiplicative(12, 1)))
        wanted = ["1", "-1/2", "1/6", "0", "-1/30", "0", "1/42", "0", "-1/30", "0", "5/66", "0"]
        self.assertEqual([str(number) for number in numbers], wanted)

    def test_both_ways(self):
        """16.1: each tuple that begins with 1 is that of just one log."""
        for log in logs_of_integers() + other_logs():
            self.assertEqual(log_of_numbers(numbers_of(log)), log)
        for numbers in ((1, 0), (Ratio(1), SIXTY), (1, Ratio(-1, 2), 3), (1,) * 12, (1, long_ratio(), 0, -SIXTY)):
            log = log_of_numbers(numbers)
            self.assertIs(is_log(log), True)
            self.assertEqual(log.degree, len(numbers))
            self.assertEqual(numbers_of(log), tuple(Ratio(0).plus(number) for number in numbers))

    def test_errors(self):
        self.check_errors(numbers_of, (Row((0, 1, Ratio(1, 2))),), [no_logs()])
        for degree in (2, 12):
            counts = bad(errors.InvalidCount, no_counts(0, degree - 1))
            self.check_errors(number_at, (Row.plain(degree), degree - 1), [no_logs(), counts])
        wrong = [(), (1,), (1,) * 13, (0, 1), (2, 1), (-1, 1), (Ratio(1, 2), 1), [1, 2], {1: 1}, (True, 1)]
        wrong += [(1, LONG), ("1", 1), (1, True), (None, 1), (Row((1,)), 1), (long_ratio(), 1)]
        wrong += [(1, value) for value in no_ratios() + package_objects()]
        wrong = bad(errors.InvalidRow, wrong + no_tuples() + package_objects())
        self.check_errors(log_of_numbers, ((Ratio(1),) * 12,), [wrong])


class TestBottoms(Checks):
    def test_bounds(self):
        for n in range(101):
            wanted = 1 if n == 0 else 2 if n % 2 else math.prod(
                p for p in range(2, n + 2) if n % (p - 1) == 0 and all(p % d for d in range(2, p)))
            self.assertEqual(bottom_bound(n), wanted)
        self.assertEqual(bottom_bound(100), 2 * 3 * 5 * 11 * 101)
        counts = bad(errors.InvalidCount, no_counts(0, 100))
        self.check_errors(bottom_bound, (100,), [counts])
        self.check_errors(bottom_bound, (0,), [counts])

    def test_bottoms(self):
        """16.2."""
        for log in logs_of_integers():
            for n, number in enumerate(numbers_of(log)):
                self.assertEqual(bottom_bound(n) % number.bottom, 0)

    def test_not_true(self):
        """16.6, and 0.21."""
        log = log_of_numbers((1, 0, Ratio(1, 3)))
        self.assertEqual([bottom_bound(n) % b.bottom for n, b in enumerate(numbers_of(log))], [0, 0, 0])
        log = log_of_numbers((1, 0, Ratio(1, 6)))
        self.assertEqual(bottom_bound(2) % 6, 0)
        self.assertIs(is_of_integers(log), False)
        odd = [numbers_of(log)[3].top for log in logs_of_integers() if log.degree > 3]
        self.assertTrue(any(odd))
        whole = log_of_integers((0, 0, 1))
        self.assertIs(is_of_integers(whole), True)
        self.assertIs(is_whole_log(whole), False)


class TestResidues(Checks):
    def test_odd_primes(self):
        """16.3."""
        many = 0
        for log, p in itertools.product(logs_of_integers(), PRIMES[1:]):
            numbers, c = numbers_of(log), derived(log)
            for n in range(p - 1, log.degree, p - 1):
                told = fraction(numbers[n]) * p
                self.assertNotEqual(told.denominator % p, 0)
                left = told.numerator * pow(told.denominator, -1, p) % p
                self.assertEqual(residue_at(log, p, n), left)
                self.assertEqual(left, -c[p - 1] ** (n // (p - 1)) % p)
                many += left != 0
        self.assertGreater(many, 20)

    def test_two(self):
        """16.3, for p = 2."""
        for log in logs_of_integers():
            numbers, c = [fraction(number) for number in numbers_of(log)], derived(log)
            for n in range(1, log.degree):
                told = 2 * numbers[n] - c[1] ** n
                if n % 2 and n >= 3:
                    told -= c[1] ** (n - 3) * c[3]
                if n % 4 == 0 or (n % 2 and n >= 3):
                    self.assertEqual((told.numerator % 2, told.denominator % 2), (0, 1))

    def test_congruences(self):
        """16.4."""
        many = 0
        for log, p in itertools.product(logs_of_integers(), (5, 7, 11)):
            numbers, c = [fraction(number) for number in numbers_of(log)], derived(log)
            for n in range(2, log.degree - p + 1):
                if n % (p - 1) and (n - 1) % (p - 1):
                    told = numbers[n + p - 1] / (n + p - 1) - c[p - 1] * numbers[n] / n
                    self.assertEqual(told.numerator % p, 0)
                    self.assertNotEqual(told.denominator % p, 0)
                    many += 1
        self.assertGreater(many, 20)

    def test_errors(self):
        log = log_of(Law.multiplicative(12, 1))
        counts = bad(errors.InvalidCount, no_counts(1, 11))
        then = [(errors.InvalidOperation, (log, p, n)) for p, n in ((2, 2), (2, 1), (2, 11), (3, 1), (5, 3), (7, 11))]
        then += [(errors.InvalidOperation, (log, 13, 11)), (errors.InvalidOperation, (log, 997, 11))]
        self.check_errors(residue_at, (log, 11, 10), [no_logs(), no_primes(), counts], then[:4])
        for error, told in then:
            self.refused(error, residue_at, *told)
        broken = [other for other in other_logs() if other.degree > 2 and not is_of_integers(other)]
        self.assertGreater(len(broken), 2)
        for other in broken:
            self.refused(errors.InvalidOperation, residue_at, other, 3, 2)
        self.count_refused(2, residue_at, Row.plain(2), 3, 2)
        self.assertEqual(residue_at(log_of_integers((SIXTY, SIXTY)), 3, 2), -SIXTY % 3)


class TestScaled(Checks):
    def test_scaled(self):
        """16.5."""
        for log in logs_of_integers()[:12] + other_logs():
            for s in (1, -1, 2, Ratio(1, 2), Ratio(-2, 3), SIXTY):
                told = scaled_log(log, s)
                self.assertIs(is_log(told), True)
                self.assertEqual(told.degree, log.degree)
                number = fraction(s)
                for n in range(1, log.degree + 1):
                    self.assertEqual(fraction(told.at(n)), fraction(log.at(n)) * number ** (n - 1))
                for n, (one, b) in enumerate(zip(numbers_of(told), numbers_of(log))):
                    self.assertEqual(fraction(one), fraction(b) * number ** n)
            self.assertEqual(scaled_log(log, 1), log)

    def test_laws(self):
        for log, s in itertools.product(other_logs()[:4], (2, Ratio(-1, 3))):
            number, double = fraction(s), law_of_log(log).double
            told = law_of_log(scaled_log(log, s)).double
            for (i, j), entry in double.entries.items():
                self.assertEqual(fraction(told.at(i, j)), fraction(entry) * number ** (i + j - 1))
            self.assertEqual(len(told), len(double))

    def test_errors(self):
        wrong = bad(errors.InvalidRatio, no_ratios() + package_objects())
        then = [(errors.InvalidOperation, (Row((0, 1, 2)), zero)) for zero in (0, Ratio(0), Ratio(0, -7))]
        self.check_errors(scaled_log, (Row((0, 1, 2)), long_ratio()), [no_logs(), wrong], then)
        self.check_errors(scaled_log, (Row.plain(12), SIXTY), [no_logs(), wrong])

    def test_valuations(self):
        """The bottoms of the numbers of Bernoulli hold just the primes with p - 1 dividing n."""
        numbers = numbers_of(log_of(Law.multiplicative(12, 1)))
        for n, p in itertools.product(range(2, 12, 2), PRIMES):
            self.assertEqual(valuation(p, numbers[n]) < 0, n % (p - 1) == 0)
            self.assertIs(is_whole_at(p, numbers[n]), n % (p - 1) != 0)


if __name__ == "__main__":
    unittest.main()
