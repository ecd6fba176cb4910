"""Promises 9.1 to 9.8 and 0.13: parts and types, and what 0.1 to 0.11 say of them."""

import inspect
import itertools
import unittest
from fractions import Fraction

from lawseries import errors
from lawseries.base.ratios import Ratio
from lawseries.between.rows_between import strict_row
from lawseries.double.doubles import Double
from lawseries.height.heights import head_of, height_of
from lawseries.law.laws import Law
from lawseries.log.logs import is_log, law_of_log, log_of
from lawseries.part.parts import (
    are_alike_at, is_type, is_whole_at, log_of_parts, log_of_second_parts, log_of_type, part_law,
    part_log, part_row, parts_of, second_parts_of, type_of,
)
from lawseries.row.rows import Row
from lawseries.step.steps import log_of_steps
from tests.reference import fraction, some_laws, some_log
from tests.support import (
    LONG, SIXTY, Checks, bad, long_integers, long_ratio, no_counts, no_integers, no_objects, no_primes,
    no_ratios, no_tuples, package_objects,
)

PRIMES = [2, 3, 5, 7, 11, 13, 997]


def no_logs():
    wrong = no_objects() + package_objects()
    wrong += [Row((0, 1)), Row((0, 2, 1)), Row((1, 1, 1)), Row((0, 1, 0), modulus=5)]
    return bad(errors.InvalidLog, wrong + [Row((0, 1) + (0,) * 12)])


def whole_logs():
    steps = [(1, 0, -1, 2), (1, 0, -1, 7), (0, 0, 0), (3, 1, 4, 1, 5, 9, 2), (-1, 2) * 5 + (1,)]
    return [log_of_steps(told) for told in steps] + [
        log_of(given) for given in some_laws(0) if given.is_whole]


def some_logs():
    found = whole_logs() + [log_of(given) for given in some_laws(0)]
    found += [some_log(seed, degree) for seed, degree in ((1, 2), (4, 9), (5, 12))]
    for prime in (2, 3, 5):
        # Whole at this prime, but not everywhere, and the other way round.
        found += [Row((0, 1, Ratio(1, 2), Ratio(1, 3), Ratio(1, prime)))]
        found += [log_of_steps((1, 2, 3, 4)).plus(Row((0, 0, 0, 0, 0, Ratio(1, prime))))]
    return found


def powers(prime, degree):
    return [prime ** k for k in range(5) if prime ** k <= degree]


def is_whole_at_p(prime, entries):
    return all(entry.bottom % prime for entry in entries)


class TestWhole(Checks):
    def test_interface(self):
        told = {
            is_whole_at: "(prime, value)", part_log: "(log, prime)", part_law: "(log, prime)",
            part_row: "(log, prime)", parts_of: "(log, prime)", second_parts_of: "(log, prime)",
            log_of_parts: "(prime, parts, degree)", log_of_second_parts: "(prime, parts, degree)",
            type_of: "(log, prime)", is_type: "(log, prime, value)",
            log_of_type: "(prime, digits, degree)", are_alike_at: "(one, other, prime)",
        }
        for call, signature in told.items():
            self.assertEqual(call.__module__, "lawseries.part.parts")
            self.assertEqual(str(inspect.signature(call)), signature)

    def test_whole_at(self):
        """9.1."""
        half = Ratio(1, 2)
        whole = [0, 1, -2, SIXTY, -SIXTY, Ratio(2), Ratio(1, 3), Ratio(5, 9), Row((1, 0)), Row((0, Ratio(1, 3)))]
        whole += [Double(2, {}), Double(2, {(1, 1): Ratio(1, 9)}), Law.additive(2)]
        whole += [law_of_log(Row((0, 1, Ratio(1, 9)))), log_of_steps((2, 0)), Ratio(SIXTY, 10 ** 59 + 1)]
        for value in whole:
            self.assertIs(is_whole_at(2, value), True)
        broken = [half, Ratio(3, 4), Row((1, half)), Row((0, 1, Ratio(1, 12))), Double(1, {(0, 0): half})]
        broken += [law_of_log(Row((0, 1, Ratio(1, 4)))), log_of_steps((1, 0))]
        for value in broken:
            self.assertIs(is_whole_at(2, value), False)
            self.assertIs(is_whole_at(5, value), True)
        none = [Row((0, 1), modulus=2), Row((0, 1), modulus=3), Double(1, {}, modulus=3)]
        none += [Law.additive(2, modulus=2), Law.additive(2, modulus=3), (1,), [], (Ratio(1),), "1"]
        none += [True, False, None, {}, LONG, -LONG, errors.InvalidOperation("1")]
        for value in none + long_integers() + no_tuples()[:15]:
            self.assertIs(is_whole_at(2, value), False)
        self.check_errors(is_whole_at, (997, None), [no_primes(), []])

    def test_whole_at_each_prime(self):
        """0.13: a law is whole exactly if it is at each prime."""
        for log in some_logs():
            given = law_of_log(log)
            primes = [p for p in range(2, 998) if all(p % d for d in range(2, p))]
            at_all = all(is_whole_at(prime, given) for prime in primes)
            self.assertIs(at_all, given.is_whole)


class TestPartLogs(Checks):
    def test_part_log(self):
        """9.2."""
        for log, prime in itertools.product(some_logs(), PRIMES):
            part, degree = part_log(log, prime), log.degree
            at = powers(prime, degree)
            wanted = tuple(log.at(n) if n in at else 0 for n in range(degree + 1))
            self.assertEqual(part, Row(wanted))
            self.assertIs(is_log(part), True)
            self.assertEqual(part_law(log, prime), law_of_log(part))
            row = part_row(log, prime)
            self.assertEqual(row, strict_row(law_of_log(log), part_law(log, prime)))
            self.assertEqual(part.put_in(row), log)
            self.assertEqual(row.degree, degree)

    def test_errors(self):
        for call in (part_log, part_law, part_row, parts_of, second_parts_of, type_of):
            self.check_errors(call, (Row((0, 1, 3)), 997), [no_logs(), no_primes()])


class TestParts(Checks):
    def check_sums(self, log, prime):
        """9.3, by fractions."""
        at = [fraction(log.at(n)) for n in powers(prime, log.degree)]
        first = [None] + [fraction(part) for part in parts_of(log, prime)]
        second = [prime] + [fraction(part) for part in second_parts_of(log, prime)]
        self.assertEqual((len(first), len(second)), (len(at), len(at)))
        for k in range(1, len(at)):
            told = sum(at[j] * first[k - j] ** (prime ** j) for j in range(k))
            self.assertEqual(told, prime * at[k])
            told = sum(at[j] * Fraction(second[k - j]) ** (prime ** j) for j in range(k + 1))
            self.assertEqual(told, prime * at[k])

    def test_sums(self):
        for log, prime in itertools.product(some_logs(), PRIMES):
            self.check_sums(log, prime)
            for call in (parts_of, second_parts_of):
                told = call(log, prime)
                self.assertIs(type(told), tuple)
                self.assertEqual([type(part) for part in told], [Ratio] * len(told))

    def test_both_ways(self):
        for log, prime in itertools.product(some_logs(), PRIMES):
            part = part_log(log, prime)
            told = log_of_parts(prime, parts_of(log, prime), log.degree)
            self.assertEqual(told, part)
            told = log_of_second_parts(prime, second_parts_of(log, prime), log.degree)
            self.assertEqual(told, part)
        numbers = [0, 1, -2, Ratio(1, 2), Ratio(5, 3)]
        for prime, degree in ((2, 2), (2, 5), (2, 12), (3, 3), (3, 11), (5, 7), (11, 12), (13, 12)):
            many = len(powers(prime, degree)) - 1
            for parts in itertools.product(numbers, repeat=many):
                wanted = tuple(Ratio(0).plus(part) for part in parts)
                self.assertEqual(parts_of(log_of_parts(prime, parts, degree), prime), wanted)
                log = log_of_second_parts(prime, parts, degree)
                self.assertEqual(second_parts_of(log, prime), wanted)
                self.assertEqual((log.degree, is_log(log)), (degree, True))

    def test_whole_parts(self):
        """9.4: whole exactly if the parts and the p-row are; second parts leave what parts leave."""
        seen = set()
        for log, prime in itertools.product(some_logs(), PRIMES):
            parts, row = parts_of(log, prime), part_row(log, prime)
            told = is_whole_at_p(prime, parts) and is_whole_at(prime, row)
            self.assertIs(is_whole_at(prime, law_of_log(log)), told)
            seen.add(told)
            if told:
                second = second_parts_of(log, prime)
                self.assertTrue(is_whole_at_p(prime, second))
                for one, other in zip(parts, second):
                    self.assertEqual(one.minus(other).top % prime, 0)
        self.assertEqual(seen, {True, False})

    def test_part_laws(self):
        for log, prime in itertools.product(some_logs(), (2, 3)):
            whole = is_whole_at_p(prime, parts_of(log, prime))
            self.assertIs(is_whole_at(prime, part_law(log, prime)), whole)

    def test_long_parts(self):
        log = log_of_parts(2, (long_ratio(), SIXTY), 5)
        self.assertEqual(parts_of(log, 2), (long_ratio(), Ratio(SIXTY)))

    def test_errors(self):
        parts = [(1,) * 4, [1, 2], {0: 1}, (1, LONG), ("1",), (1, True), (Ratio(1), None), (0,) * 13]
        parts += [(1, value) for value in no_ratios() + package_objects()] + no_tuples()
        wrong = [no_primes(), bad(errors.InvalidParts, parts + package_objects())]
        wrong += [bad(errors.InvalidCount, no_counts(2, 12))]
        pairs = [((1,), 4), ((1, 2, 3), 4), ((), 4), ((1, 2), 3), ((1, 2), 8), ((1,), 12)]
        then = [(errors.InvalidOperation, (2, told, degree)) for told, degree in pairs]
        for call in (log_of_parts, log_of_second_parts):
            self.check_errors(call, (2, (1, Ratio(1, 2)), 4), wrong, then)
            self.refused(errors.InvalidOperation, call, 13, (1,), 12)
            self.assertEqual(call(13, (), 12), Row.plain(12))
            self.refused(errors.InvalidOperation, call, 3, (), 3)

    def test_not_true(self):
        """9.8 and 0.21: whole parts without a whole law; and parts are ratios, no integers."""
        log = Row((0, 1, 0, 0, 0, 0, Ratio(1, 4)))
        self.assertTrue(is_whole_at_p(2, parts_of(log, 2)))
        self.assertIs(is_whole_at(2, law_of_log(log)), False)
        for log, prime in itertools.product(whole_logs(), (2, 3)):
            for part in parts_of(log, prime):
                self.assertNotEqual(part, part.top)


class TestTypes(Checks):
    def is_type_by_definition(self, log, prime, digits):
        """9.5, by fractions."""
        at = [fraction(entry) for entry in log.entries]
        for n in range(1, log.degree + 1):
            told = prime * at[n]
            for k, digit in enumerate(digits, start=1):
                if n % prime ** k == 0:
                    told += digit * at[n // prime ** k]
            if told.denominator % prime == 0 or told.numerator % prime:
                return False
        return True

    def test_plain_types(self):
        """9.5 and 0.13: there is a type exactly if the law is whole at p, and just one plain one."""
        seen = set()
        for log, prime in itertools.product(some_logs(), PRIMES):
            whole, told = is_whole_at(prime, law_of_log(log)), type_of(log, prime)
            many = len(powers(prime, log.degree)) - 1
            self.assertIs(told is not None, whole)
            seen.add(whole)
            if prime ** many <= 200:
                every = list(itertools.product(range(prime), repeat=many))
                found = [one for one in every if self.is_type_by_definition(log, prime, one)]
                self.assertEqual(found, [told] if whole else [])
                self.assertEqual([one for one in every if is_type(log, prime, one)], found)
            if whole:
                self.assertTrue(all(type(digit) is int and 0 <= digit < prime for digit in told))
        self.assertEqual(seen, {True, False})

    def test_other_types(self):
        """0.6: all types are judged to be types, whoever made them."""
        for log, prime in itertools.product(some_logs(), (2, 3, 5)):
            many = len(powers(prime, log.degree)) - 1
            digits = (-5, -1, 0, 1, 2, 7, 10 ** 80, -10 ** 80 - 1)
            for value in itertools.product(digits[:5 if many > 2 else 8], repeat=many):
                wanted = self.is_type_by_definition(log, prime, value)
                self.assertIs(is_type(log, prime, value), wanted)

    def test_types_of_other_kinds(self):
        log = log_of_steps((-1, 1, -1, 1))
        self.assertEqual(type_of(log, 2), (1, 1))
        self.assertIs(is_type(log, 2, (1, 1)), True)
        none = [(True, 1), (1, True), (1,), (1, 1, 0), [1, 1], {0: 1, 1: 1}, "11", ("1", "1"), (Ratio(1), 1)]
        none += [(1, value) for value in no_integers() if not isinstance(value, int) or value is True]
        for value in none + no_objects() + package_objects():
            self.assertIs(is_type(log, 2, value), False)
        self.assertIs(is_type(log, 7, ()), True)
        self.assertIs(is_type(Row((0, 1, Ratio(1, 7))), 7, ()), False)
        self.check_errors(is_type, (log, 2, 5), [no_logs(), no_primes(), []])

    def test_log_of_type(self):
        """p * b(x), u(1) * b(x ** p), .. add up to p * x."""
        for prime, degree in ((2, 2), (2, 7), (2, 8), (2, 12), (3, 8), (3, 9), (7, 6), (11, 12), (997, 2)):
            many = len(powers(prime, degree)) - 1
            for digits in itertools.product((0, 1, -1, 6), repeat=many):
                log = log_of_type(prime, digits, degree)
                self.assertIs(is_log(log), True)
                self.assertEqual(log.degree, degree)
                self.assertEqual(part_log(log, prime), log)
                total = log.scaled(prime)
                for digit, power in zip(digits, powers(prime, degree)[1:]):
                    total = total.plus(log.spread(power).scaled(digit))
                self.assertEqual(total, Row.plain(degree).scaled(prime))
                self.assertIs(is_type(log, prime, digits), True)
                self.assertEqual(type_of(log, prime), self.plain_of(log, prime))
                self.assertIs(is_whole_at(prime, law_of_log(log)), True)

    def plain_of(self, log, prime):
        many = len(powers(prime, log.degree)) - 1
        every = itertools.product(range(min(prime, 12)), repeat=many)
        return [one for one in every if self.is_type_by_definition(log, prime, one)][0]

    def test_errors_of_log_of_type(self):
        digits = [(1,) * 4, [1, 2], {0: 1}, (1, LONG), ("1",), (1, True), (Ratio(1), 2), (1, Ratio(1, 2))]
        digits += [(1, value) for value in no_integers() + package_objects()] + no_tuples()
        wrong = [no_primes(), bad(errors.InvalidParts, digits + package_objects())]
        wrong += [bad(errors.InvalidCount, no_counts(2, 12))]
        pairs = [((1,), 4), ((1, 2, 3), 4), ((), 4), ((1, 2), 3), ((1, 2), 8), ((1,), 12)]
        then = [(errors.InvalidOperation, (2, told, degree)) for told, degree in pairs]
        self.check_errors(log_of_type, (2, (1, SIXTY), 4), wrong, then)

    def test_heights(self):
        """9.7."""
        for log, prime in itertools.product(whole_logs(), (2, 3, 5, 7)):
            parts, digits, given = parts_of(log, prime), type_of(log, prime), law_of_log(log).led(prime)
            first = [k for k, digit in enumerate(digits) if digit]
            units = [k for k, part in enumerate(parts) if part.top % prime]
            self.assertEqual(first[:1], units[:1])
            if first:
                k = first[0]
                self.assertEqual(parts[k].plus(digits[k]).top % prime, 0)
                self.assertEqual(height_of(given), k + 1)
                leaves = parts[k].top * pow(parts[k].bottom, -1, prime) % prime
                self.assertEqual(head_of(given), leaves)
            else:
                self.assertIsNone(height_of(given))


class TestAlike(Checks):
    def test_three_ways(self):
        """9.6: by the strict row, by plain types, and by a type of both."""
        seen = set()
        for prime in (2, 3, 5):
            logs = [log for log in some_logs() if type_of(log, prime) is not None]
            logs += [log_of_type(prime, (1,) + (0,) * (len(powers(prime, 9)) - 2), 9)]
            for one, other in itertools.product(logs, repeat=2):
                degree = min(one.degree, other.degree)
                told = are_alike_at(one, other, prime)
                row = strict_row(law_of_log(one), law_of_log(other))
                self.assertIs(told, is_whole_at(prime, row))
                plain = type_of(one.cut(degree), prime)
                self.assertIs(told, plain == type_of(other.cut(degree), prime))
                self.assertIs(told, is_type(other.cut(degree), prime, plain))
                seen.add(told)
        self.assertEqual(seen, {True, False})

    def test_whole_at_all_primes(self):
        """0.15 and 7.3: strictly alike is alike at each prime."""
        for one, other in itertools.product(whole_logs(), repeat=2):
            told = all(are_alike_at(one, other, prime) for prime in (2, 3, 5, 7, 11))
            self.assertIs(told, strict_row(law_of_log(one), law_of_log(other)).is_whole)

    def test_errors(self):
        good, broken = Row((0, 1, 3)), Row((0, 1, Ratio(1, 4)))
        late = Row((0, 1, 0, 0, Ratio(1, 8)))
        pairs = [(broken, good), (good, broken), (broken, broken), (good, late), (late, good)]
        then = [(errors.InvalidOperation, pair + (2,)) for pair in pairs]
        self.check_errors(are_alike_at, (good, good, 2), [no_logs(), no_logs(), no_primes()], then)
        self.assertIs(are_alike_at(good, late, 3), True)


if __name__ == "__main__":
    unittest.main()
