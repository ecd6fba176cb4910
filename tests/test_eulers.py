"""Promises 13.1 to 13.7 and 0.18: rules, and what 0.1 to 0.11 say of them."""

import inspect
import itertools
import math
import random
import unittest
from fractions import Fraction

from lawseries import errors
from lawseries.base.ratios import Ratio
from lawseries.between.rows_between import are_strictly_alike, strict_row
from lawseries.cubic.cubics import TOLD, Cubic
from lawseries.euler import eulers
from lawseries.euler.eulers import (
    RULE_PRIMES, Rule, cubic_rule, eta_entries, is_rule_row, rule_fault,
)
from lawseries.height.heights import height_of
from lawseries.law.laws import Law
from lawseries.log.logs import is_log, law_of_log
from lawseries.part.parts import are_alike_at, is_type, parts_of
from lawseries.row.rows import Row
from tests.reference import fraction
from tests.support import (
    LONG, SIXTY, Checks, bad, no_counts, no_integers, no_objects, no_tuples, other_kinds, others_than,
    package_objects, some_ratios, some_strings, some_tuples,
)

PRIMES = (2, 3, 5, 7, 11, 13, 17, 19, 23)
BILLION = 10 ** 9
LEVELS = (1, 2, 3, 4, 6, 11, 25, 30, 49, 9973, 223092870, BILLION)
ETAS = {
    11: {1: 2, 11: 2}, 14: {1: 1, 2: 1, 7: 1, 14: 1}, 15: {1: 1, 3: 1, 5: 1, 15: 1},
    20: {2: 2, 10: 2}, 24: {2: 1, 4: 1, 6: 1, 12: 1}, 27: {3: 2, 9: 2}, 32: {4: 2, 8: 2}, 36: {6: 4},
}


def numbers_by(seed, most=4):
    source = random.Random(f"rule {seed}")
    return {prime: source.randrange(-most, most + 1) for prime in PRIMES}


def some_rules():
    found = [Rule(level, numbers_by(level)) for level in LEVELS]
    found += [Rule(1, dict.fromkeys(PRIMES, 0)), Rule(6, dict.fromkeys(PRIMES, 0)), Rule(1, dict.fromkeys(PRIMES, 1))]
    found += [Rule(level, {p: p * (p - 3) for p in PRIMES}) for level in (1, 2, 15)]
    found += [Rule(1, dict.fromkeys(PRIMES, SIXTY)), Rule(10, numbers_by("great", SIXTY))]
    return found + [cubic_rule(Cubic.told(level)) for level in (11, 14, 36)]


def number_by_rules(level, numbers, n):
    """a(n), by 13.1."""
    found = 1
    for p in PRIMES:
        powers, k = [1, numbers[p]], 0
        while n % p ** (k + 1) == 0:
            k += 1
            powers.append(numbers[p] * powers[-1] - (p if level % p else 0) * powers[-2])
        found *= powers[k]
    return found


def no_levels():
    wrong = no_integers() + package_objects() + [0, -1, BILLION + 1, SIXTY, -SIXTY]
    return bad(errors.InvalidCount, wrong)


def no_rule_primes():
    wrong = no_integers() + package_objects() + [0, 1, -2, 4, 9, 24, 29, 31, 97, 997, SIXTY]
    return bad(errors.InvalidPrime, wrong)


def no_dicts():
    wrong = [value for value in other_kinds() if not isinstance(value, dict)]
    return wrong + some_strings() + some_tuples() + some_ratios() + package_objects() + [0, 1, LONG]


class TestInterface(Checks):
    def test_interface(self):
        told = (eulers.MAX_RULE, eulers.MAX_LEVEL, eulers.RULE_PRIMES)
        self.assertEqual(told, (24, BILLION, PRIMES))
        told = {
            Rule: "(level, numbers)", Rule.is_good: "(self, prime)", Rule.told_type: "(self, prime)",
            Rule.number_at: "(self, number)", Rule.row_to: "(self, degree)",
            Rule.log_to: "(self, degree)", Rule.law_to: "(self, degree)",
            Rule.height_at: "(self, prime, degree)", rule_fault: "(level, row)",
            is_rule_row: "(level, value)", cubic_rule: "(cubic)", eta_entries: "(table, size)",
        }
        for call, signature in told.items():
            self.assertEqual(call.__module__, "lawseries.euler.eulers")
            self.assertEqual(str(inspect.signature(call)), signature)
            if call.__name__ != call.__qualname__:
                self.assertIn(call.__name__, vars(Rule))
        for name in ("level", "numbers", "__eq__", "__str__"):
            self.assertIn(name, vars(Rule))


class TestRules(Checks):
    def test_numbers(self):
        """13.1."""
        for rule in some_rules():
            told = [number_by_rules(rule.level, rule.numbers, n) for n in range(1, 25)]
            self.assertEqual([rule.number_at(n) for n in range(1, 25)], told)
            for degree in (1, 2, 12, 23, 24):
                row = rule.row_to(degree)
                self.assertEqual((row.degree, row.whole()), (degree, (0, *told[:degree])))
            for degree in (2, 5, 12):
                log = rule.log_to(degree)
                self.assertIs(is_log(log), True)
                wanted = [Fraction(0)] + [Fraction(a, n) for n, a in enumerate(told[:degree], start=1)]
                self.assertEqual([fraction(entry) for entry in log.entries], wanted)
                self.assertEqual(rule.law_to(degree), law_of_log(log))
            self.assertEqual(str(rule), f"rule of level {rule.level}")

    def test_kept(self):
        numbers = dict(reversed(numbers_by(5).items()))
        rule = Rule(12, numbers)
        self.assertEqual((rule.level, rule.numbers, list(rule.numbers)), (12, numbers_by(5), list(PRIMES)))
        numbers[2] = 100
        told = rule.numbers
        told[3] = 100
        self.assertEqual(rule.numbers, numbers_by(5))
        self.assertEqual([p for p in PRIMES if rule.is_good(p)], [5, 7, 11, 13, 17, 19, 23])
        for p in PRIMES:
            self.assertEqual(rule.told_type(p), (-numbers_by(5)[p], int(p > 3)))
            self.assertIs(rule.is_good(p), p > 3)

    def test_whole(self):
        """13.2: whole, whatever the numbers are, with a told type at each prime."""
        for rule in some_rules():
            self.assertTrue(rule.law_to(12).is_whole)
            self.assertTrue(rule.law_to(5).is_whole)
            for degree, p in itertools.product((2, 4, 9, 12), PRIMES):
                many = len([k for k in range(1, 5) if p ** k <= degree])
                self.assertIs(is_type(rule.log_to(degree), p, (*rule.told_type(p), 0)[:many]), True)
            self.check_tops(rule)

    def check_tops(self, rule):
        b = [fraction(entry) for entry in rule.log_to(12).entries]
        for p in PRIMES:
            minus, good = rule.told_type(p)
            for n in range(1, 13):
                told = p * b[n] + (minus * b[n // p] if n % p == 0 else 0)
                told += good * b[n // (p * p)] if n % (p * p) == 0 else 0
                self.assertEqual(told.numerator % p, 0)
                self.assertNotEqual(told.denominator % p, 0)

    def test_parts_and_heights(self):
        """13.3."""
        seen = set()
        for rule, p in itertools.product(some_rules(), PRIMES):
            a, good = rule.numbers[p], int(rule.is_good(p))
            for degree in (2, 3, 4, 8, 9, 12):
                parts = [fraction(part) for part in parts_of(rule.log_to(degree), p)]
                wanted = [a, Fraction(a * a - good * p - a ** (p + 1), p)]
                self.assertEqual(parts[:2], wanted[:len(parts)])
                height = 1 if a % p else 2 if good else None
                shown = height is not None and p ** height <= degree
                self.assertEqual(rule.height_at(p, degree), height if shown else None)
                self.assertEqual(height_of(rule.law_to(degree).led(p)), rule.height_at(p, degree))
                seen.add((p, rule.height_at(p, degree)))
        for p in (2, 3):
            self.assertLessEqual({(p, 1), (p, 2), (p, None)}, seen)

    def test_alike(self):
        """13.4."""
        rules = some_rules()
        for p in (2, 3, 5, 7):
            for rule in rules:
                for level in (1, p, 7 * p, 9973):
                    numbers = numbers_by("alike", 9) | {p: rule.numbers[p]}
                    other = Rule(level, numbers)
                    if other.is_good(p) == rule.is_good(p):
                        self.assertIs(are_alike_at(rule.log_to(12), other.log_to(9), p), True)
        one, other = Rule(1, numbers_by(1)), Rule(2, numbers_by(1))
        self.assertIs(are_alike_at(one.log_to(4), other.log_to(4), 2), False)

    def test_equal(self):
        one = Rule(6, numbers_by(1))
        for level in (6, 12, 18, 36, 6 * 29):
            self.assertIs(one == Rule(level, numbers_by(1)), True)
            self.assertIs(one != Rule(level, numbers_by(1)), False)
        for level in (1, 2, 3, 30, 66):
            self.assertIs(one == Rule(level, numbers_by(1)), False)
            self.assertIs(one != Rule(level, numbers_by(1)), True)
        self.assertIs(one == Rule(6, numbers_by(1) | {23: 9}), False)
        for value in no_objects() + others_than(Rule) + [numbers_by(1), "rule of level 6"]:
            self.assertIs(one == value, False)
            self.assertIs(value != one, True)
        with self.assertRaises(TypeError):
            iter(one)

    def test_errors(self):
        good = numbers_by(1)
        wrong = no_dicts() + [{}, {2: 3}, good | {29: 1}, {p: 1 for p in PRIMES[:8]}]
        wrong += [{**{p: 1 for p in PRIMES[:8]}, 29: 1}, {**{p: 1 for p in PRIMES[:8]}, "23": 1}]
        wrong += [good | {p: value} for p in (2, 23) for value in no_integers() + package_objects()]
        wrong = bad(errors.InvalidOperation, wrong)
        for level in (1, BILLION):
            self.check_errors(Rule, (level, good), [no_levels(), wrong])

    def test_errors_of_methods(self):
        rule = Rule(6, numbers_by(1))
        for call in (rule.is_good, rule.told_type):
            for good in (2, 23):
                self.check_errors(call, (good,), [no_rule_primes()])
        counts = bad(errors.InvalidCount, no_counts(1, 24))
        for call in (rule.number_at, rule.row_to):
            self.check_errors(call, (24,), [counts])
            self.check_errors(call, (1,), [counts])
        counts = bad(errors.InvalidCount, no_counts(2, 12) + [1, 13, 24])
        for call in (rule.log_to, rule.law_to):
            self.check_errors(call, (12,), [counts])
            self.check_errors(call, (2,), [counts])
        self.check_errors(rule.height_at, (23, 12), [no_rule_primes(), counts])

    def test_not_true(self):
        """13.7 and 0.21: a(1) = 1 is not enough; nor are equal heights."""
        log = Row((0, 1, Ratio(1, 2), Ratio(1, 3), Ratio(2, 4)))
        self.assertFalse(law_of_log(log).is_whole)
        one, other = Rule(1, dict.fromkeys(PRIMES, 1)), Rule(1, dict.fromkeys(PRIMES, 1) | {5: 2})
        self.assertEqual([one.height_at(p, 12) for p in PRIMES], [other.height_at(p, 12) for p in PRIMES])
        self.assertIs(are_strictly_alike(one.law_to(12), other.law_to(12)), False)


class TestFaults(Checks):
    def wanted_fault(self, level, row):
        if row[0] != 1:
            return 1
        numbers = {p: row[p - 1] if p <= len(row) else 0 for p in PRIMES}
        for n in range(2, len(row) + 1):
            if n not in PRIMES and row[n - 1] != number_by_rules(level, numbers, n):
                return n
        return None

    def test_rows_of_rules(self):
        for rule in some_rules():
            for degree in (1, 2, 3, 4, 12, 24):
                row = rule.row_to(degree).whole()[1:]
                if max(map(abs, row)) < LONG:
                    self.assertIsNone(rule_fault(rule.level, row))
                    self.assertIs(is_rule_row(rule.level, row), True)

    def test_changed_rows(self):
        seen = set()
        for level in LEVELS:
            row = Rule(level, numbers_by(level)).row_to(24).whole()[1:]
            for at, step in itertools.product(range(24), (1, -2)):
                told = row[:at] + (row[at] + step,) + row[at + 1:]
                fault = self.wanted_fault(level, told)
                self.assertEqual(rule_fault(level, told), fault)
                self.assertIs(is_rule_row(level, told), fault is None)
                seen.add(fault)
        self.assertLessEqual({None, 1, 4, 6, 8, 9, 16, 22, 24}, seen)

    def test_all_small_rows(self):
        for level, row in itertools.product((1, 2, 3), itertools.product((-1, 0, 1, 2), repeat=4)):
            self.assertEqual(rule_fault(level, row), self.wanted_fault(level, row))
        for row in ((0,), (2,), (-1,)):
            self.assertEqual(rule_fault(5, row), 1)
        self.assertIsNone(rule_fault(5, (1,)))
        self.assertIsNone(rule_fault(5, (1, SIXTY, -SIXTY)))

    def test_bad_primes(self):
        self.assertEqual([rule_fault(level, (1, 3, 0, 9)) for level in (1, 2, 3, 10)], [4, None, 4, None])
        self.assertEqual([rule_fault(level, (1, 3, 0, 7)) for level in (1, 2, 3, 10)], [None, 4, None, 4])

    def test_errors(self):
        wrong = [(), (1,) * 25, [1, 2], {1: 1}, (1, LONG), ("1",), (True,), (1, True), (1, None), (Ratio(1),)]
        wrong += [(1, value) for value in no_integers() + package_objects()]
        wrong += no_tuples() + package_objects()
        for level in (1, BILLION):
            self.check_errors(rule_fault, (level, (1,) * 24), [no_levels(), bad(errors.InvalidOperation, wrong)])
            self.check_errors(is_rule_row, (level, (1,) * 24), [no_levels(), []])
        for value in wrong + no_objects():
            self.assertIs(is_rule_row(1, value), False)


class TestCubics(Checks):
    def test_rules(self):
        """13.5: numbers and levels."""
        for cubic in [Cubic.told(level) for level in TOLD] + [Cubic(1, 2, 3, 4, 5), Cubic(0, 0, 0, 0, 0)]:
            rule = cubic_rule(cubic)
            self.assertEqual(rule.numbers, {p: cubic.trace_at(p) for p in PRIMES})
            self.assertEqual(rule.level, math.prod(p for p in PRIMES if cubic.discriminant % p == 0))
        self.assertEqual(cubic_rule(Cubic(0, 0, 0, 0, 0)).level, 223092870)
        self.assertEqual([cubic_rule(Cubic.told(level)).level for level in TOLD],
                         [11, 14, 15, 17, 19, 10, 21, 6, 3, 2, 6, 1, 7])

    def test_strictly_alike(self):
        """13.5 and 0.18: the starting row between both laws is whole."""
        for level in TOLD:
            cubic = Cubic.told(level)
            one, other = cubic.law_by_log(12), cubic_rule(cubic).law_to(12)
            self.assertIs(are_strictly_alike(one, other), True)
            self.assertTrue(strict_row(one, other).is_whole)
            self.assertIs(are_strictly_alike(other, cubic.law_by_lines(12)), True)

    def test_errors(self):
        wrong = bad(errors.InvalidCubic, others_than(Cubic) + [(0, -1, 1, 0, 0), 11])
        self.check_errors(cubic_rule, (Cubic.told(11),), [wrong])


def slow_eta(table, size):
    """The product of the factors with exponents above 0, divided by that of all others."""
    above, below = [1] + [0] * size, [1] + [0] * size
    for k, e in table.items():
        for n in range(1, size + 1):
            for _ in range(abs(e)):
                factor = above if e > 0 else below
                for at in range(size, -1, -1):
                    if at >= k * n:
                        factor[at] -= factor[at - k * n]
    found = []
    for n in range(size + 1):
        found.append(above[n] - sum(below[n - at] * found[at] for at in range(n)))
    ahead = sum(k * e for k, e in table.items()) // 24
    return tuple(([0] * ahead + found)[:size + 1])


class TestEtas(Checks):
    def test_eight_levels(self):
        """13.6."""
        for level, table in ETAS.items():
            row = cubic_rule(Cubic.told(level)).row_to(24).whole()
            self.assertEqual(eta_entries(table, 24), row)
            for size in (1, 2, 11, 23):
                self.assertEqual(eta_entries(table, size), row[:size + 1])

    def test_other_products(self):
        tables = [{1: 24}, {1: 1, 23: 1}, {1: -24, 2: 12}, {2: 24}, {24: 1}, {24: 24}, {1: -8, 2: 16}]
        tables += [{1: -1, 5: 5}, {5: 5, 1: -1}, {3: -8, 24: 1}, {1: 24, 24: -1}, {1: 2, 2: -1}]
        tables += [{17: 24, 18: 24, 19: 24, 20: 24, 21: 24, 22: 24, 23: 24, 24: 24}, {12: -24, 24: 12}]
        for table in tables:
            for size in (1, 3, 24):
                self.assertEqual(eta_entries(table, size), slow_eta(table, size))
        self.assertEqual(eta_entries({1: 24}, 6), (0, 1, -24, 252, -1472, 4830, -6048))
        self.assertEqual(eta_entries({24: 24}, 24), (0,) * 24 + (1,))
        self.assertEqual(eta_entries({23: 24}, 22), (0,) * 23)

    def test_errors(self):
        wrong = [{}, {k: 24 for k in range(1, 10)}, {1: 1}, {1: 0, 24: 1}, {1: -24}, {1: 25, 23: 1}, {0: 24}, {25: 24}]
        wrong += [{1: -25, 7: 7}, {-1: 24, 24: 2}, {True: 24}, {24: True}, {"1": 24}, {1: "24"}, {(1,): 24}, {None: 24}]
        wrong += [{1: 24, 2: value} for value in no_integers() + package_objects()] + [{1: 2, 11: 3}, {LONG: 24}]
        wrong += [{2: 12, 1: -24, 24: -1}]
        wrong = bad(errors.InvalidOperation, wrong + no_dicts())
        counts = bad(errors.InvalidCount, no_counts(1, 24))
        self.check_errors(eta_entries, ({1: 2, 11: 2}, 24), [wrong, counts])
        eight = {k: 24 for k in range(1, 9)}
        self.check_errors(eta_entries, (eight, 1), [wrong, counts])

    def test_laws_of_etas(self):
        for level, table in ETAS.items():
            entries = [Ratio(a, n) for n, a in enumerate(eta_entries(table, 12)[1:], start=1)]
            given = law_of_log(Row((0, *entries)))
            self.assertEqual(given, cubic_rule(Cubic.told(level)).law_to(12))
            self.assertIsInstance(given, Law)

    def test_rule_primes(self):
        self.assertEqual(RULE_PRIMES, PRIMES)


if __name__ == "__main__":
    unittest.main()
