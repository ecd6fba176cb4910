"""Promises 8.1 to 8.8 and 0.16: heights, and what 0.1 to 0.10 say of them."""

import inspect
import itertools
import unittest

from lawseries import errors
from lawseries.base.ratios import Ratio
from lawseries.between.rows_between import alike_row, is_between, rows_modulo
from lawseries.double.doubles import Double, across, row_double
from lawseries.height.heights import (
    head_of, height_counts, height_of, inner_row, law_of_height, zero_bound,
)
from lawseries.law.laws import Law, is_law
from lawseries.log.logs import is_whole_log, law_of_log, log_of
from lawseries.part.parts import log_of_parts, parts_of, type_of
from lawseries.row.rows import Row
from lawseries.step.steps import law_of_steps, laws_modulo, lift_of
from tests.reference import some_laws, some_row
from tests.support import Checks, bad, no_counts, no_primes, others_than

PRIMES = [2, 3, 5, 7, 11, 13, 997]
LISTED = [(2, 2), (4, 2), (5, 2), (8, 2), (2, 3), (4, 3), (3, 5), (3, 11)]


def no_laws():
    return bad(errors.InvalidLaw, others_than(Law))


def greatest(prime, degree):
    return max(h for h in range(5) if prime ** h <= degree)


def prime_laws():
    found = []
    for prime in (2, 3, 5):
        found += some_laws(prime)
        found += [law_of_height(prime, degree, h) for degree in (4, 9, 12)
                  for h in range(1, greatest(prime, degree) + 1)]
        found += [law_of_height(prime, 5, None)]
    return found + [Law.multiplicative(12, 1, modulus=11), Law.multiplicative(12, 1, modulus=9973)]


def slow_fold(given, number):
    """The k-fold, one sum after the other."""
    plain = Row.plain(given.degree, modulus=given.modulus)
    total = plain.scaled(0)
    for _ in range(number):
        total = given.sum_of(total, plain)
    return total


class TestHeights(Checks):
    def test_interface(self):
        told = {
            height_of: "(given)", head_of: "(given)", inner_row: "(given)",
            law_of_height: "(prime, degree, height, *, head=1)",
            height_counts: "(prime, degree)", zero_bound: "(one, other)",
        }
        for call, signature in told.items():
            self.assertEqual(call.__module__, "lawseries.height.heights")
            self.assertEqual(str(inspect.signature(call)), signature)

    def test_p_fold(self):
        """8.1: what the p-fold begins with, and where it is 0."""
        seen = set()
        for given in prime_laws():
            p, degree = given.modulus, given.degree
            told = (height_of(given), head_of(given), inner_row(given))
            if p > degree:
                self.assertEqual(told, (None, None, None))
                if p <= 1000:
                    self.assertIsNone(given.multiple(p).order)
                continue
            fold = slow_fold(given, p)
            seen.add(told[0])
            if told[0] is None:
                self.assertEqual(told, (None, None, None))
                self.assertIsNone(fold.order)
                continue
            power = p ** told[0]
            self.assertGreaterEqual(told[0], 1)
            self.assertEqual((fold.order, fold.at(power)), (power, told[1]))
            wanted = tuple(fold.at(at) for at in range(0, degree + 1, power))
            self.assertEqual(told[2], Row(wanted, modulus=p))
            self.assertEqual(told[2].degree, degree // power)
            spread = Row((wanted + (0,) * degree)[:degree + 1], modulus=p).spread(power)
            self.assertEqual(fold, spread)
        self.assertEqual(seen, {None, 1, 2, 3})

    def test_inner_row_leads(self):
        for given in prime_laws():
            row = inner_row(given)
            if row is not None and row.degree >= 2:
                self.assertIs(is_between(given.cut(row.degree), given, row), True)
                left = row_double(row, given.double)
                self.assertEqual(left, across(given.double, row, row))

    def test_great_primes(self):
        for modulus in (13, 997, 1009, 9973):
            for degree in (2, 12):
                given = Law.multiplicative(degree, 1, modulus=modulus)
                self.assertIsNone(height_of(given))
                self.assertIsNone(head_of(given))
                self.assertIsNone(inner_row(given))
                if degree == 2 or modulus == 13:
                    self.assertIsNone(slow_fold(given, modulus).order)

    def test_folds_of_integers(self):
        """8.2."""
        for given in prime_laws():
            p, degree, height, head = given.modulus, given.degree, height_of(given), head_of(given)
            for number in [1, -1, 2, 3, 4, 5, 6, -8, 9, 12, 16, 25, -36, 60, 997, 1000, -1000]:
                unit, times = number, 0
                while unit % p == 0:
                    unit, times = unit // p, times + 1
                fold = given.multiple(number)
                if times == 0:
                    self.assertEqual(fold.at(1), unit % p)
                elif height is not None and p ** (times * height) <= degree:
                    place = p ** (times * height)
                    self.assertEqual(fold.order, place)
                    self.assertEqual(fold.at(place), unit * head ** times % p)
                else:
                    self.assertIsNone(fold.order)

    def test_changed_laws(self):
        """8.3, and x ** p leads from each law to itself."""
        for given in prime_laws():
            p, degree = given.modulus, given.degree
            if p <= 24:
                power = Row.plain(degree, modulus=p).spread(p)
                self.assertIs(is_between(given, given, power), True)
            for first in {1, p - 1}:
                other = given.changed(some_row(5, degree, p, (0, first)))
                self.assertEqual(height_of(other), height_of(given))
                self.assertEqual(head_of(other), head_of(given))

    def test_by_parts(self):
        """8.5 and 9.7: told by the parts, and by the plain type, of a lift."""
        for given in prime_laws():
            p = given.modulus
            if p > 997:
                continue
            log = log_of(lift_of(given))
            self.assertIs(is_whole_log(log), True)
            left = [(h, part.top * pow(part.bottom, -1, p) % p)
                    for h, part in enumerate(parts_of(log, p), start=1)]
            left = [pair for pair in left if pair[1]]
            wanted = left[0] if left else (None, None)
            self.assertEqual((height_of(given), head_of(given)), wanted)
            digits = [h for h, digit in enumerate(type_of(log, p), start=1) if digit]
            self.assertEqual(digits[0] if digits else None, wanted[0])

    def test_other_moduli(self):
        wrong = [Law.additive(2), Law.multiplicative(4, 1)]
        wrong += [Law.additive(2, modulus=modulus) for modulus in (4, 6, 9, 9999, 10000)]
        wrong += [law_of_log(Row((0, 1, Ratio(1, 4))))]
        then = [(errors.InvalidOperation, (given,)) for given in wrong]
        for call in (height_of, head_of, inner_row):
            self.check_errors(call, (Law.additive(2, modulus=2),), [no_laws()], then)


class TestLawsOfHeight(Checks):
    def test_heights_and_heads(self):
        """8.7."""
        for prime in PRIMES:
            for degree in (2, 3, 4, 5, 8, 9, 11, 12):
                self.assertEqual(law_of_height(prime, degree, None), Law.additive(degree, modulus=prime))
                for height in range(1, greatest(prime, degree) + 1):
                    for head in {1, prime - 1, (prime + 1) // 2}:
                        self.check(prime, degree, height, head)

    def check(self, prime, degree, height, head):
        given = law_of_height(prime, degree, height, head=head)
        self.assertEqual((given.degree, given.modulus), (degree, prime))
        self.assertIs(is_law(given.double), True)
        self.assertEqual((height_of(given), head_of(given)), (height, head))
        parts = [head if h == height else 0 for h in range(1, greatest(prime, degree) + 1)]
        log = log_of_parts(prime, tuple(parts), degree)
        self.assertIs(is_whole_log(log), True)
        self.assertEqual(law_of_log(log).led(prime), given)

    def test_head_left_out(self):
        self.assertEqual(law_of_height(3, 9, 2), law_of_height(3, 9, 2, head=1))
        self.assertNotEqual(law_of_height(3, 9, 2), law_of_height(3, 9, 2, head=2))
        self.assertEqual(law_of_height(3, 9, None, head=2), Law.additive(9, modulus=3))

    def call(self, prime, degree, height, head):
        return law_of_height(prime, degree, height, head=head)

    def test_errors(self):
        primes = no_primes()
        degrees = bad(errors.InvalidCount, no_counts(2, 12))
        heights = [value for value in no_counts(1, 2) if value is not None]
        wrong = [
            primes, degrees, bad(errors.InvalidCount, heights + [10 ** 59]),
            bad(errors.InvalidCount, no_counts(1, 2)),
        ]
        self.check_errors(self.call, (3, 9, 2, 2), wrong)
        wrong[2] = []
        self.check_errors(self.call, (3, 2, None, 1), wrong)
        for prime, degree, height in ((2, 3, 2), (3, 8, 2), (2, 7, 3), (2, 12, 4), (13, 12, 1), (5, 4, 1)):
            self.count_refused(height, self.call, prime, degree, height, 1)
        for prime in (2, 3, 997):
            self.count_refused(prime, self.call, prime, 5, None, prime)
            self.count_refused(0, self.call, prime, 5, None, 0)


class TestCounts(Checks):
    def test_all_laws(self):
        """8.6, by all laws of some degrees."""
        for degree, prime in LISTED:
            found = [height_of(given) for given in laws_modulo(degree, prime)]
            top = greatest(prime, degree)
            wanted = [found.count(h) for h in range(1, top + 1)] + [found.count(None)]
            self.assertEqual(height_counts(prime, degree), tuple(wanted))
            self.assertEqual(sum(wanted), len(found))

    def test_all_counts(self):
        for prime in PRIMES:
            for degree in range(2, 13):
                counts, top = height_counts(prime, degree), greatest(prime, degree)
                self.assertEqual(len(counts), top + 1)
                self.assertEqual(sum(counts), prime ** (degree - 1))
                for h in range(1, top + 1):
                    self.assertEqual(counts[h - 1], (prime - 1) * prime ** (degree - 1 - h))
                self.assertTrue(all(type(count) is int for count in counts))

    def test_errors(self):
        degrees = bad(errors.InvalidCount, no_counts(2, 12))
        self.check_errors(height_counts, (997, 12), [no_primes(), degrees])


class TestZeroBound(Checks):
    def test_all_rows(self):
        """8.4 and 0.16: rows between laws of unlike heights are 0 up to the bound."""
        many = 0
        for prime, degrees in ((2, (4, 6, 8)), (3, (3, 4, 5))):
            laws = [law_of_height(prime, degree, h) for degree in degrees
                    for h in [None, *range(1, greatest(prime, degree) + 1)]]
            laws += [given for given in some_laws(prime) if given.degree in degrees]
            for one, other in itertools.product(laws, repeat=2):
                bound, heights = zero_bound(one, other), [height_of(one), height_of(other)]
                lesser = min(one.degree, other.degree)
                if heights[0] == heights[1]:
                    self.assertIsNone(bound)
                    continue
                least = min(h for h in heights if h is not None)
                self.assertEqual(bound, lesser // prime ** least)
                self.assertEqual(zero_bound(other, one), bound)
                for row in rows_modulo(one, other):
                    self.assertEqual(row.entries[:bound + 1], (0,) * (bound + 1))
                    many += 1
        self.assertGreater(many, 100)

    def test_unlike_degrees(self):
        two, three = law_of_height(2, 12, 2), law_of_height(2, 12, 3)
        self.assertEqual([zero_bound(two, three), zero_bound(three, two.cut(11))], [3, 2])
        self.assertEqual(zero_bound(two, Law.additive(3, modulus=2)), 0)
        self.assertIsNone(zero_bound(two.cut(3), Law.additive(12, modulus=2)))
        self.assertIsNone(zero_bound(Law.additive(2, modulus=9973), Law.multiplicative(3, 1, modulus=9973)))

    def test_errors(self):
        two, three = Law.additive(2, modulus=2), Law.additive(2, modulus=3)
        four, none = Law.additive(2, modulus=4), Law.additive(2)
        pairs = [(two, three), (three, two), (four, four), (none, none), (two, none), (two, four)]
        then = [(errors.InvalidOperation, pair) for pair in pairs]
        self.check_errors(zero_bound, (two, two), [no_laws(), no_laws()], then)


class TestNotTrue(Checks):
    """8.8: what is not true."""

    def test_one_height_and_head(self):
        found = {}
        for given in laws_modulo(4, 2):
            found.setdefault((height_of(given), head_of(given)), []).append(given)
        unlike = [
            pair for laws in found.values() for pair in itertools.combinations(laws, 2)
            if alike_row(*pair) is None
        ]
        self.assertTrue(unlike)

    def test_unlike_heights(self):
        one, other = Law.multiplicative(3, 1, modulus=2), Law.additive(3, modulus=2)
        self.assertEqual(zero_bound(one, other), 1)
        self.assertIs(is_between(one, other, Row((0, 0, 1, 0), modulus=2)), True)

    def test_double_rows_are_no_laws(self):
        double = Double(2, {(0, 1): 1, (1, 0): 1}, modulus=2)
        self.refused(errors.InvalidLaw, height_of, double)
        self.assertIsNone(height_of(law_of_steps((0,), modulus=2)))


if __name__ == "__main__":
    unittest.main()
