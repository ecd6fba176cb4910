"""Promises 14.1 to 14.8 and 0.19: folds, and what 0.1 to 0.11 say of them."""

import inspect
import itertools
import random
import unittest

from lawseries import errors
from lawseries.base.ratios import Ratio
from lawseries.between.rows_between import is_between, row_between, strict_row
from lawseries.height.heights import head_of, height_of, inner_row
from lawseries.law.laws import Law
from lawseries.local import folds
from lawseries.local.folds import (
    fold_height, is_fold, law_of_fold, log_of_fold, plain_fold, residue_law, row_between_folds,
    scalar_row, told_fold,
)
from lawseries.log.logs import fold_row, is_log, law_of_log, log_of
from lawseries.part.parts import are_alike_at, is_whole_at, log_of_type
from lawseries.row.rows import Row
from lawseries.step.steps import law_of_steps
from tests.reference import some_laws, some_log
from tests.support import (
    SIXTY, Checks, bad, long_ratio, no_counts, no_laws, no_objects, no_primes, no_ratios, no_rows,
    others_than, package_objects,
)

PRIMES = (2, 3, 5, 7, 11)


def heights(prime, degree):
    return [h for h in range(1, 5) if prime ** h <= degree]


def some_fold(prime, degree, height, seed, most=9, power=1):
    """The plain fold and some multiples of a power of the prime."""
    source = random.Random(f"fold {prime} {degree} {height} {seed}")
    entries = list(plain_fold(prime, degree, height).whole())
    for n in range(2, degree + 1):
        entries[n] += prime ** power * source.randrange(-most, most + 1)
    return Row(tuple(entries))


def some_folds():
    """Triples of a prime, a height and a fold."""
    found = []
    for prime in PRIMES:
        for degree in (2, 3, 4, 5, 8, 9, 11, 12):
            for height in heights(prime, degree):
                found.append((prime, height, plain_fold(prime, degree, height)))
                found.append((prime, height, some_fold(prime, degree, height, 1)))
                found.append((prime, height, some_fold(prime, degree, height, 2, 10 ** 58)))
    return found


def near_folds(prime):
    """Rows that are nearly folds of a prime."""
    p = prime
    found = [Row((0, p)), Row((p,)), Row((0,)), Row((0, p) + (0,) * 11), Row((0, p) + (0,) * 10)]
    found += [Row((0, p) + (0,) * (p - 2) + (1,) + (0,) * (13 - p))]
    if p > 2:
        found += [Row((0, p) + (0,) * (p - 2) + (-1,)), Row((0, p) + (0,) * (p - 3) + (1, 1))]
        found += [Row((0, p) + (0,) * (p - 2) + (2,)), Row((0, p) + (0,) * (p - 3) + (1,))]
    told = plain_fold(p, 12, 1)
    found += [told.scaled(-1), told.scaled(p), told.plus(Row.plain(12)), told.plus(Row.plain(12).scaled(p))]
    found += [told.plus(Row((1,) + (0,) * 12)), told.plus(Row((p,) + (0,) * 12)), told.scaled(Ratio(1, p))]
    found += [told.plus(Row((0,) * 12 + (Ratio(1, 7 if p != 7 else 5),))), told.led(10000), told.led(p)]
    found += [told.plus(Row((0,) * 12 + (1,))), told.plus(Row((0,) * 12 + (p + 1,)))]
    for n in (6, 10):
        found.append(told.plus(Row((0,) * n + (1,) + (0,) * (12 - n))))
    return found


class TestInterface(Checks):
    def test_interface(self):
        self.assertEqual(folds.LOST, 4)
        told = {
            is_fold: "(prime, value)", plain_fold: "(prime, degree, height)",
            fold_height: "(prime, fold)", log_of_fold: "(prime, fold)", law_of_fold: "(prime, fold)",
            scalar_row: "(prime, fold, number)", row_between_folds: "(prime, one, other)",
            residue_law: "(prime, fold, power)", told_fold: "(prime, given)",
        }
        for call, signature in told.items():
            self.assertEqual(call.__module__, "lawseries.local.folds")
            self.assertEqual(str(inspect.signature(call)), signature)


def no_fold_primes():
    return no_primes() + bad(errors.InvalidPrime, [13, 17, 97, 997])


class TestFolds(Checks):
    def is_fold_by_definition(self, prime, row):
        """14.1."""
        if row.modulus != 0 or not row.is_whole or not 2 <= row.degree <= 12:
            return None
        if row.at(0).top != 0 or row.at(1).top != prime:
            return None
        left = tuple(entry.top % prime for entry in row.entries)
        for h in range(1, 5):
            if prime ** h <= row.degree and left == tuple(
                    int(n == prime ** h) for n in range(row.degree + 1)):
                return h
        return None

    def test_judging(self):
        seen = set()
        rows = [row for _, _, row in some_folds()] + [row for p in PRIMES for row in near_folds(p)]
        rows += [Row((0, 2, a, b, c)) for a, b, c in itertools.product(range(-2, 3), repeat=3)]
        rows += [Row((0, 3, a, b, c)) for a, b, c in itertools.product(range(-3, 4), repeat=3)]
        for prime, row in itertools.product(PRIMES, rows):
            height = self.is_fold_by_definition(prime, row)
            self.assertIs(is_fold(prime, row), height is not None)
            if height is not None:
                self.assertEqual(fold_height(prime, row), height)
            else:
                self.refused(errors.InvalidOperation, fold_height, prime, row)
            seen.add(height)
        self.assertEqual(seen, {None, 1, 2, 3})

    def test_values_of_other_kinds(self):
        for value in no_objects() + others_than(Row) + [(0, 2, 1), [0, 2, 1]]:
            self.assertIs(is_fold(2, value), False)
        for good in (2, 11):
            self.check_errors(is_fold, (good, Row((0, 2, 1))), [no_fold_primes(), []])

    def test_plain_folds(self):
        for prime, degree in itertools.product(PRIMES, range(2, 13)):
            for height in heights(prime, degree):
                wanted = [0] * (degree + 1)
                wanted[1], wanted[prime ** height] = prime, 1
                self.assertEqual(plain_fold(prime, degree, height), Row(tuple(wanted)))
                self.assertEqual(fold_height(prime, plain_fold(prime, degree, height)), height)
            above = len(heights(prime, degree)) + 1
            for height in (0, above, -1, SIXTY):
                self.count_refused(height, plain_fold, prime, degree, height)
        degrees = bad(errors.InvalidCount, no_counts(2, 12))
        for prime, most in ((2, 3), (3, 2)):
            counts = bad(errors.InvalidCount, no_counts(1, most))
            self.check_errors(plain_fold, (prime, 12, most), [no_fold_primes(), degrees, counts])
        self.count_refused(1, plain_fold, 11, 10, 1)
        self.count_refused(1, plain_fold, 3, 2, 1)

    def test_height_errors(self):
        then = [(errors.InvalidOperation, (3, row)) for row in near_folds(3) + [Row((0, 2, 1, 0))]]
        for call in (fold_height, log_of_fold, law_of_fold):
            self.check_errors(call, (3, plain_fold(3, 4, 1)), [no_fold_primes(), no_rows()], then)
            self.check_errors(call, (11, plain_fold(11, 12, 1)), [no_fold_primes()[:40], []])


class TestLaws(Checks):
    def test_logs(self):
        """14.2: a(f(x)) = p * a(x), and the sum that tells the entries."""
        for prime, _, fold in some_folds():
            log = log_of_fold(prime, fold)
            self.assertIs(is_log(log), True)
            self.assertEqual(log.degree, fold.degree)
            self.assertEqual(log.put_in(fold), log.scaled(prime))
            if fold.degree < 6:
                powers = [fold.raised(k) for k in range(fold.degree + 1)]
                for n in range(2, fold.degree + 1):
                    told = Ratio(0)
                    for k in range(1, n):
                        told = told.plus(log.at(k).times(powers[k].at(n)))
                    self.assertEqual(log.at(n).times(prime - prime ** n), told)

    def test_laws(self):
        """14.2 and 0.19: the law of a fold has it as its p-fold, and is whole at p."""
        for prime, _, fold in some_folds():
            given = law_of_fold(prime, fold)
            self.assertEqual(given, law_of_log(log_of_fold(prime, fold)))
            self.assertEqual(given.multiple(prime), fold)
            self.assertIs(is_whole_at(prime, given), True)
            self.assertEqual(told_fold(prime, given), fold)

    def test_told_folds(self):
        laws = some_laws(0) + [law_of_steps(steps) for steps in ((1, 1, 1, 1), (1, 0, 0, 0, 0, 0, 2))]
        laws += [law_of_log(some_log(3, 9)), law_of_log(log_of_type(3, (2, 1), 9))]
        seen = set()
        for given, prime in itertools.product(laws, PRIMES):
            fold = given.multiple(prime)
            told = told_fold(prime, given)
            self.assertEqual(told, fold if is_fold(prime, fold) else None)
            seen.add(told is None)
            if told is not None:
                self.assertEqual(law_of_fold(prime, told), given)
        self.assertEqual(seen, {True, False})

    def test_multiplicative(self):
        """14.7."""
        for prime, c, degree in itertools.product(PRIMES, (1, -1, 2, 3, 10, SIXTY), (2, 4, 7, 12)):
            fold = told_fold(prime, Law.multiplicative(degree, c))
            if c % prime and prime <= degree:
                self.assertEqual(fold, Law.multiplicative(degree, c).multiple(prime))
                self.assertEqual(fold_height(prime, fold), 1)
            else:
                self.assertIsNone(fold)

    def test_heights(self):
        """14.5: modulo p the height, the head 1 and the inner row x."""
        for prime, height, fold in some_folds():
            given = residue_law(prime, fold, 1)
            self.assertEqual(given, law_of_fold(prime, fold).led(prime))
            self.assertEqual((height_of(given), head_of(given)), (height, 1))
            inner = inner_row(given)
            self.assertEqual(inner, Row.plain(fold.degree // prime ** height, modulus=prime))

    def test_residues(self):
        """14.6: what folds leave modulo p ** (k + 4) tells what their laws leave modulo p ** k."""
        for prime, degree, k in itertools.product(PRIMES, (4, 9, 12), (1, 2, 3)):
            for height in heights(prime, degree):
                if prime ** k > 10000:
                    continue
                fold = some_fold(prime, degree, height, 3)
                for seed in range(3):
                    change = some_fold(prime, degree, height, seed, 9, k + folds.LOST)
                    other = fold.plus(change).minus(plain_fold(prime, degree, height))
                    self.assertEqual(residue_law(prime, fold, k), residue_law(prime, other, k))

    def test_powers(self):
        most = {2: 13, 3: 8, 5: 5, 7: 4, 11: 3}
        for prime, power in most.items():
            fold = plain_fold(prime, 12, 1)
            for k in range(1, power + 1):
                given = residue_law(prime, fold, k)
                self.assertEqual((given.modulus, given.degree), (prime ** k, 12))
                self.assertEqual(given, law_of_fold(prime, fold).led(prime ** k))
            counts = bad(errors.InvalidCount, no_counts(1, power))
            then = [(errors.InvalidOperation, (prime, row, 1)) for row in near_folds(prime)]
            wrong = [no_fold_primes()[:30], no_rows()[:30], counts]
            self.check_errors(residue_law, (prime, fold, power), wrong)
            for error, told in then:
                self.refused(error, residue_law, *told)
                # What is no fold is refused ahead of the power.
                self.refused(error, residue_law, told[0], told[1], 0)
                self.refused(error, residue_law, told[0], told[1], None)

    def test_told_fold_errors(self):
        laws = [Law.additive(2, modulus=m) for m in (2, 3, 10000)]
        then = [(errors.InvalidOperation, (3, given)) for given in laws]
        self.check_errors(told_fold, (3, Law.additive(3)), [no_fold_primes(), no_laws()], then)

    def test_not_true(self):
        """14.8: the law of a fold is not whole everywhere, and not each law has a fold."""
        self.assertFalse(law_of_fold(3, plain_fold(3, 4, 1)).is_whole)
        self.assertIsNone(told_fold(3, Law.additive(3)))
        # A whole law that has a height modulo 2, but more than x ** 2 in its 2-fold.
        given = law_of_steps((1, 0, -1, 2))
        self.assertEqual(height_of(given.led(2)), 1)
        self.assertIsNone(told_fold(2, given))


class TestScalars(Checks):
    def test_curves(self):
        """14.3."""
        for prime, _, fold in some_folds():
            numbers = [0, 1, -1, 2, 5, Ratio(1, prime + 1), Ratio(-prime, 2 * prime - 1), Ratio(prime, 1)]
            given = law_of_fold(prime, fold)
            for number in numbers:
                row = scalar_row(prime, fold, number)
                self.assertEqual((row.degree, row.modulus), (fold.degree, 0))
                self.assertEqual(row.at(1), Ratio(0).plus(number))
                self.assertEqual(row.put_in(fold), fold.put_in(row))
                self.assertIs(is_whole_at(prime, row), True)
                self.assertEqual(row, fold_row(log_of_fold(prime, fold), number))
                if isinstance(number, int):
                    self.assertEqual(row, given.multiple(number))
            self.assertEqual(scalar_row(prime, fold, prime), fold)

    def test_sums_and_products(self):
        for prime, _, fold in some_folds():
            if fold.degree > 5:
                continue
            given = law_of_fold(prime, fold)
            for r, s in itertools.product((2, Ratio(1, prime + 1), Ratio(-3, 1)), repeat=2):
                one, other = scalar_row(prime, fold, r), scalar_row(prime, fold, s)
                r, s = Ratio(0).plus(r), Ratio(0).plus(s)
                self.assertEqual(one.put_in(other), scalar_row(prime, fold, r.times(s)))
                self.assertEqual(given.sum_of(one, other), scalar_row(prime, fold, r.plus(s)))
                self.assertIs(is_between(given, given, one), True)

    def test_errors(self):
        fold = plain_fold(3, 4, 1)
        wrong = [no_fold_primes(), no_rows(), bad(errors.InvalidRatio, no_ratios() + package_objects())]
        bottoms = [Ratio(1, 3), Ratio(2, 9), Ratio(-5, 6), Ratio(1, 3 * 10 ** 59)]
        then = [(errors.InvalidOperation, (3, fold, number)) for number in bottoms]
        self.check_errors(scalar_row, (3, fold, SIXTY), wrong, then)
        self.assertEqual(scalar_row(3, fold, Ratio(3, 2)).at(1), Ratio(3, 2))
        for row, number in itertools.product(near_folds(3), (1, Ratio(1, 3), None, "1", True)):
            self.refused(errors.InvalidOperation, scalar_row, 3, row, number)
        told = long_ratio()
        if told.bottom % 3:
            self.assertEqual(scalar_row(3, fold, told).at(1), told)


class TestBetween(Checks):
    def test_rows(self):
        """14.4: t(f(x)) = g(t(x)), between the laws of both, whole at p."""
        found = some_folds()
        many = 0
        for (prime, height, one), (q, other_height, other) in itertools.product(found, repeat=2):
            if prime != q or height != other_height or (one.degree + other.degree) % 3:
                continue
            least = min(one.degree, other.degree)
            row = row_between_folds(prime, one, other)
            self.assertEqual((row.degree, row.at(0), row.at(1)), (least, Ratio(0), Ratio(1)))
            self.assertEqual(row.put_in(one), other.put_in(row))
            self.assertIs(is_whole_at(prime, row), True)
            self.assertEqual(row_between_folds(prime, other, one), row.turned_back())
            many += 1
        self.assertGreater(many, 50)

    def test_laws_of_both(self):
        for prime in (2, 3, 5):
            for height in heights(prime, 9):
                one, other = some_fold(prime, 12, height, 4), some_fold(prime, 9, height, 5)
                laws = law_of_fold(prime, one), law_of_fold(prime, other)
                row = row_between_folds(prime, one, other)
                self.assertEqual(row, strict_row(*laws))
                self.assertEqual(row, row_between(*laws, 1))
                self.assertIs(is_between(*laws, row), True)
                logs = [log_of(given) for given in laws]
                self.assertIs(are_alike_at(*logs, prime), True)

    def test_errors(self):
        fold, high = plain_fold(2, 4, 1), plain_fold(2, 4, 2)
        then = [(errors.InvalidOperation, pair) for pair in [(2, fold, high), (2, high, fold)]]
        wrong = [no_fold_primes(), no_rows(), no_rows()]
        self.check_errors(row_between_folds, (2, fold, plain_fold(2, 2, 1)), wrong, then)
        for row in near_folds(2) + [plain_fold(3, 4, 1)]:
            for pair in ((fold, row), (row, fold), (row, row), (high, row)):
                self.refused(errors.InvalidOperation, row_between_folds, 2, *pair)
            # The first one that is no row is told ahead of what is no fold.
            self.refused(errors.InvalidRow, row_between_folds, 2, row, None)


if __name__ == "__main__":
    unittest.main()
