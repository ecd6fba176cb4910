"""Promises 5.1 to 5.7: logs, and what 0.1 to 0.10 say of them."""

import inspect
import itertools
import math
import unittest

from lawseries import errors
from lawseries.base.ratios import Ratio
from lawseries.double.doubles import Double, row_double, row_sum
from lawseries.law.laws import Law, is_law
from lawseries.log import logs
from lawseries.log.logs import (
    changed_log, curve_log, curve_of_log, differential, exp_of, fold_row, is_log, is_whole_log,
    law_of_log, log_fault, log_of,
)
from lawseries.row.rows import Row
from tests.reference import (
    letter, of_double, of_row, slow_fault, some_laws, some_log, some_row,
)
from tests.support import (
    Checks, bad, long_ratio, no_objects, no_ratios, others_than, package_objects,
)

MODULI = [0, 2, 4, 6, 9]
RATIOS = [0, 1, -1, 3, Ratio(1, 2), Ratio(-5, 3), Ratio(4)]
NO_LOGS = [
    Row((0, 1)), Row((0, 2, 1)), Row((1, 1, 1)), Row((0, 0, 1)), Row((0,)), Row((0, 1, 0), modulus=5),
    Row((0, Ratio(1, 2), 1)), Row((0, 1) + (0,) * 12), Row((0, -1, 0)), Row((Ratio(1, 2), 1, 0)),
]


def some_logs():
    return [some_log(seed, degree) for seed, degree in ((1, 2), (2, 3), (3, 5), (4, 6))] + [
        log_of(Law.multiplicative(6, 1)), log_of(Law.quadric(7, 1, 2)), Row.plain(4),
    ]


def no_logs():
    return bad(errors.InvalidLog, no_objects() + package_objects() + NO_LOGS)


def no_curves():
    return bad(errors.InvalidCurve, others_than(Row) + [
        Row((1, 1)), Row((Ratio(1, 2),)), Row((6, 1), modulus=5)])


class TestDifferentials(Checks):
    def test_interface(self):
        for name in """
            differential log_of exp_of law_of_log is_log is_whole_log log_fault fold_row curve_log
            curve_of_log changed_log
        """.split():
            self.assertEqual(getattr(logs, name).__module__, "lawseries.log.logs")
        told = {
            differential: "(given)", log_of: "(given)", exp_of: "(given)", law_of_log: "(log)",
            is_log: "(value)", is_whole_log: "(value)", log_fault: "(log)",
            fold_row: "(log, number)", curve_log: "(log, curve)", curve_of_log: "(log, row)",
            changed_log: "(log, row)",
        }
        for call, signature in told.items():
            self.assertEqual(str(inspect.signature(call)), signature)

    def test_by_the_definition(self):
        """5.1."""
        for modulus in MODULI:
            for given in some_laws(modulus):
                row = differential(given)
                self.assertEqual((row.degree, row.modulus), (given.degree - 1, modulus))
                told = tuple(given.double.at(1, j) for j in range(given.degree))
                x_row = Row(told, modulus=modulus)
                self.assertEqual(row.times(x_row), x_row.raised(0))
                if given.is_whole:
                    self.assertIs(row.is_whole, True)
                    for led in (2, 9):
                        self.assertEqual(differential(given.led(led)), row.led(led))

    def test_errors(self):
        wrong = [bad(errors.InvalidLaw, others_than(Law))]
        self.check_errors(differential, (Law.additive(2, modulus=5),), wrong)
        then = [(errors.InvalidOperation, (Law.additive(degree, modulus=5),)) for degree in (2, 3)]
        for call in (log_of, exp_of):
            self.check_errors(call, (Law.additive(2),), wrong, then)


class TestLogs(Checks):
    def test_log_of_a_law(self):
        """5.2: the log leads the law to x + y; it starts, and its derivative is the differential."""
        for given in some_laws(0):
            log, degree = log_of(given), given.degree
            self.assertIs(is_log(log), True)
            self.assertEqual(log.degree, degree)
            self.assertEqual(log.derived(), differential(given))
            self.assertEqual(row_double(log, given.double), row_sum(log, log))
            x, y = letter(0, 2, degree), letter(1, 2, degree)
            exp = exp_of(given)
            self.assertEqual(exp, log.turned_back())
            wanted = of_row(exp).of(of_row(log).of(x) + of_row(log).of(y))
            self.assertEqual(of_double(given.double), wanted)

    def test_both_ways(self):
        for log in some_logs():
            given = law_of_log(log)
            self.assertIs(type(given), Law)
            self.assertIs(is_law(given.double), True)
            self.assertIsNone(slow_fault(given.double))
            self.assertEqual((given.degree, given.modulus), (log.degree, 0))
            self.assertEqual(log_of(given), log)
        for given in some_laws(0):
            self.assertEqual(law_of_log(log_of(given)), given)

    def test_to_the_greatest_degree(self):
        for log in (some_log(1, 12), log_of(Law.quadric(12, 3, -1))):
            self.assertEqual(log_of(law_of_log(log)), log)
            self.assertEqual(Law(law_of_log(log).double), law_of_log(log))

    def test_long_entries(self):
        log = Row((0, 1, long_ratio(), Ratio(1, 3), long_ratio()))
        self.assertEqual(log_of(law_of_log(log)), log)
        self.assertEqual(Law(law_of_log(log).double), law_of_log(log))

    def test_equal_up_to_a_degree(self):
        for one, other in itertools.product(some_logs(), repeat=2):
            for degree in range(2, min(one.degree, other.degree) + 1):
                rows = one.cut(degree) == other.cut(degree)
                laws = law_of_log(one).cut(degree) == law_of_log(other).cut(degree)
                self.assertIs(rows, laws)

    def test_whole_laws(self):
        """5.5: n a(n) and n! e(n) are integers."""
        whole = [given for given in some_laws(0) if given.is_whole]
        self.assertGreater(len(whole), 3)
        for given in whole:
            log, exp = log_of(given), exp_of(given)
            for n in range(1, given.degree + 1):
                self.assertEqual(log.at(n).times(n).bottom, 1)
                self.assertEqual(exp.at(n).times(math.factorial(n)).bottom, 1)

    def test_is_log(self):
        for value in no_objects() + package_objects() + NO_LOGS:
            self.assertIs(is_log(value), False)
            self.assertIs(is_whole_log(value), False)
        for log in some_logs():
            self.assertIs(is_log(log), True)
            self.assertIs(is_whole_log(log), law_of_log(log).is_whole)
        for degree in (2, 12):
            self.assertIs(is_whole_log(Row.plain(degree)), True)
        self.assertIs(is_log(Row((0, Ratio(3, 3), long_ratio()))), True)

    def test_errors(self):
        for call in (law_of_log, log_fault):
            self.check_errors(call, (Row((0, 1, 5)),), [no_logs()])


class TestFaults(Checks):
    def by_definition(self, log):
        """5.6, told by the entries of the law."""
        double = law_of_log(log).double
        for n in range(log.degree + 1):
            bottoms = [double.at(i, n - i).bottom for i in range(n + 1)]
            if any(bottom > 1 for bottom in bottoms):
                primes = [p for p in range(2, 998) if all(p % d for d in range(2, p))]
                found = [p for p in primes if any(bottom % p == 0 for bottom in bottoms)]
                return (n, found[0] if found else None)
        return None

    def test_faults(self):
        found = some_logs()
        for log in list(found):
            for at in range(2, log.degree + 1):
                for added in (Ratio(1, at), Ratio(1, 6), Ratio(1, 997), Ratio(1, 1009)):
                    entries = list(log.entries)
                    entries[at] = entries[at].plus(added)
                    found.append(Row(tuple(entries)))
        seen = []
        for log in found:
            told = log_fault(log)
            self.assertEqual(told, self.by_definition(log))
            self.assertIs(is_whole_log(log), told is None)
            if told is not None:
                seen.append(told[1])
                if told[0] > 2:
                    self.assertIs(is_whole_log(log.cut(told[0] - 1)), True)
        self.assertLessEqual({None, 2, 3, 997}, set(seen))

    def test_primes(self):
        told = [(Ratio(1, 4), 2), (Ratio(1, 9), 3), (Ratio(1, 1009), None), (Ratio(1, 997), 997)]
        told += [(Ratio(1, 1009 * 991), 991), (Ratio(5, 10 ** 9 + 7), None), (Ratio(1, 2 * 991), 991)]
        for number, prime in told:
            self.assertEqual(log_fault(Row((0, 1, number))), (2, prime))

    def test_not_true(self):
        """5.7."""
        log = Row((0, 1, 0, 0, Ratio(1, 4)))
        exp = log.turned_back()
        for n in range(5):
            self.assertEqual(log.at(n).times(n).bottom, 1)
            self.assertEqual(exp.at(n).times(math.factorial(n)).bottom, 1)
        self.assertEqual(log_fault(log), (4, 2))
        self.assertEqual(log_fault(Row((0, 1, Ratio(1, 6), Ratio(1, 2)))), (2, 3))


class TestFolds(Checks):
    def test_integers(self):
        for log in some_logs():
            given = law_of_log(log)
            for number in (0, 1, -1, 2, 5, -7, 1000):
                self.assertEqual(fold_row(log, number), given.multiple(number))

    def test_ratios(self):
        """5.3."""
        for log in some_logs():
            given = law_of_log(log)
            for one, other in itertools.product(RATIOS, repeat=2):
                first, second = fold_row(log, one), fold_row(log, other)
                self.assertEqual(log.put_in(first), log.scaled(one))
                product = Ratio(1).times(one).times(other)
                self.assertEqual(first.put_in(second), fold_row(log, product))
                both = fold_row(log, Ratio(0).plus(one).plus(other))
                self.assertEqual(given.sum_of(first, second), both)

    def test_errors(self):
        wrong = [no_logs(), bad(errors.InvalidRatio, no_ratios() + package_objects())]
        self.check_errors(fold_row, (Row((0, 1, 5)), Ratio(1, 2)), wrong)
        self.assertEqual(fold_row(Row((0, 1, 5)), long_ratio()).at(1), long_ratio())


class TestCurves(Checks):
    def curves(self, degree):
        return [some_row(seed, lesser, 0, (0,)) for seed, lesser in enumerate((0, 1, degree, 14))]

    def test_curve_log(self):
        for log in some_logs():
            given = law_of_log(log)
            for curve in self.curves(log.degree):
                degree = min(log.degree, curve.degree)
                row = curve_log(log, curve)
                self.assertEqual(of_row(row), of_row(log).cut(degree).of(of_row(curve).cut(degree)))
                self.assertEqual(curve_of_log(log, row), curve.cut(degree))
                back = curve_of_log(log, curve)
                self.assertEqual(back.degree, degree)
                self.assertEqual(curve_log(log, back), curve.cut(degree))
            for one, other in itertools.product(self.curves(log.degree), repeat=2):
                both = curve_log(log, one).plus(curve_log(log, other))
                self.assertEqual(curve_log(log, given.sum_of(one, other)), both)

    def test_errors(self):
        then = [Row((0, 1), modulus=5), Row((0,), modulus=2)]
        good = Row((0, 1, 5))
        for call in (curve_log, curve_of_log):
            later = [(errors.InvalidOperation, (good, row)) for row in then]
            self.check_errors(call, (good, Row((0, 2))), [no_logs(), no_curves()], later)

    def test_changed_log(self):
        """5.4, and the law of it."""
        for log in some_logs():
            for degree, first in ((2, 1), (4, -2), (9, Ratio(2, 3))):
                row = some_row(1, degree, 0, (0, first))
                other, lesser = changed_log(log, row), min(log.degree, degree)
                self.assertEqual(other.degree, lesser)
                self.assertEqual(law_of_log(other), law_of_log(log).changed(row))
                wanted = log.put_in(row.cut(lesser).turned_back()).scaled(first)
                self.assertEqual(other, wanted)

    def test_errors_of_changed_log(self):
        good = Row((0, 1, 5))
        later = [
            Row((0, 1, 1), modulus=5), Row((0, 1)), Row((0,)), Row((1, 1, 1)), Row((0, 0, 1)),
            Row((1,), modulus=2),
        ]
        then = [(errors.InvalidOperation, (good, row)) for row in later]
        wrong = [no_logs(), bad(errors.InvalidRow, others_than(Row))]
        self.check_errors(changed_log, (good, Row((0, 2, 1))), wrong, then)

    def test_double_rows_are_no_laws(self):
        self.refused(errors.InvalidLaw, log_of, Double(2, {(0, 1): 1, (1, 0): 1}))


if __name__ == "__main__":
    unittest.main()
