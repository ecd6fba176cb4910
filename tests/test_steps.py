"""Promises 6.1 to 6.5 and 0.12: steps, and what 0.1 to 0.11 say of them."""

import inspect
import itertools
import types
import unittest

from lawseries import errors
from lawseries.base.numbers import step_divisor
from lawseries.base.ratios import Ratio
from lawseries.double.doubles import Double, step_double
from lawseries.law.laws import Law, is_law
from lawseries.log.logs import is_whole_log, law_of_log, log_of
from lawseries.row.rows import Row
from lawseries.step import steps
from lawseries.step.steps import (
    MAX_LISTED, extended, first_difference, is_lift, law_of_steps, laws_modulo, lift_of, log_of_steps,
    moved_by, next_entry, steps_of,
)
from tests.reference import slow_fault, some_laws
from tests.support import (
    LONG, SIXTY, Checks, bad, long_ratio, no_counts, no_integers, no_moduli, no_objects, no_ratios,
    no_tuples, others_than, package_objects,
)

SOME_STEPS = [
    (0,), (5,), (1, 0), (-1, 1, -1, 1, -1), (1, 0, -1, 2), (2, 7, -3, 0, 5, 1), (0,) * 11,
    tuple(range(-5, 6)), (SIXTY, -SIXTY, SIXTY),
]
FRACTION_LAW = law_of_log(Row((0, 1, Ratio(1, 4))))


def no_steps():
    wrong = [(), (0,) * 12, [1, 2], {0: 1}, ((1,),), (1, LONG), (-LONG,), ("1",), (1, True)]
    wrong += [(1, value) for value in no_integers() + package_objects()]
    return bad(errors.InvalidSteps, wrong + no_tuples() + package_objects())


def no_laws():
    return bad(errors.InvalidLaw, others_than(Law) + [FRACTION_LAW.double])


def whole_laws():
    return [given for given in some_laws(0) if given.is_whole] + [
        law_of_steps(told) for told in SOME_STEPS]


class TestSteps(Checks):
    def test_interface(self):
        self.assertEqual(MAX_LISTED, 20000)
        told = {
            next_entry: "(log)", steps_of: "(given)", law_of_steps: "(steps, *, modulus=0)",
            log_of_steps: "(steps)", lift_of: "(given)", is_lift: "(given, value)",
            extended: "(given, number)", moved_by: "(given, number)",
            first_difference: "(one, other)", laws_modulo: "(degree, modulus)",
        }
        for call, signature in told.items():
            self.assertEqual(call.__module__, "lawseries.step.steps")
            self.assertEqual(str(inspect.signature(call)), signature)
            self.assertTrue(hasattr(steps, call.__name__))

    def test_both_ways(self):
        """6.3: each tuple is that of just one whole law."""
        for told in SOME_STEPS:
            given = law_of_steps(told)
            self.assertIs(type(given), Law)
            self.assertEqual((given.degree, given.modulus), (len(told) + 1, 0))
            self.assertIs(given.is_whole, True)
            self.assertIs(is_law(given.double), True)
            self.assertEqual(steps_of(given), told)
            self.assertEqual([type(step) for step in steps_of(given)], [int] * len(told))
            self.assertEqual(log_of_steps(told), log_of(given))
            self.assertEqual(law_of_log(log_of_steps(told)), given)
        for given in whole_laws():
            self.assertEqual(law_of_steps(steps_of(given)), given)
            for degree in range(2, given.degree + 1):
                self.assertEqual(steps_of(given.cut(degree)), steps_of(given)[:degree - 1])

    def test_by_the_definition(self):
        for given in whole_laws():
            log = log_of(given)
            for n, step in enumerate(steps_of(given), start=2):
                base = next_entry(log.cut(n - 1)) if n > 2 else Ratio(0)
                self.assertEqual(log.at(n), base.plus(Ratio(step, step_divisor(n))))

    def test_long_steps(self):
        given = law_of_steps((SIXTY, 0))
        twice = moved_by(moved_by(given, SIXTY), SIXTY)
        self.assertEqual(steps_of(twice), (SIXTY, -2 * SIXTY))
        self.refused(errors.InvalidSteps, law_of_steps, steps_of(twice))
        self.assertEqual(steps_of(extended(twice, 4)), (SIXTY, -2 * SIXTY, 4))

    def test_next_entry(self):
        """6.2: the least one of at least 0; others differ by integers over the step divisor."""
        for given in whole_laws():
            log, n = log_of(given), given.degree + 1
            if n > 12:
                self.refused(errors.InvalidOperation, next_entry, log)
                continue
            told, divisor = next_entry(log), step_divisor(n)
            self.assertIs(type(told), Ratio)
            self.assertGreaterEqual(told.sign, 0)
            self.assertEqual(told.compared(Ratio(1, divisor)), -1)
            for top in range(n + 1):
                # n times an entry of the log of a whole law is an integer.
                entry = Ratio(top, n)
                whole = entry.minus(told).times(divisor).bottom == 1
                self.assertIs(is_whole_log(Row(log.entries + (entry,))), whole)

    def test_added_steps(self):
        """6.2: adding s / d(n) takes s times C_n."""
        for told in SOME_STEPS:
            n = len(told) + 1
            entries = log_of_steps(told).entries
            for number in (1, -4, Ratio(2, 3)):
                added = Ratio(0).plus(number).over(step_divisor(n))
                other = law_of_log(Row(entries[:-1] + (entries[-1].plus(added),)))
                taken = law_of_steps(told).double.minus(step_double(n, n).scaled(number))
                self.assertEqual(other.double, taken)

    def test_errors(self):
        self.check_errors(log_of_steps, ((1, 2),), [no_steps()])
        then = [(errors.InvalidSteps, (told, 5)) for told in [(5,), (0, -1), (1, SIXTY), (4, 4, 6)]]
        self.check_errors(
            lambda told, modulus: law_of_steps(told, modulus=modulus), ((1, 4), 5),
            [no_steps(), bad(errors.InvalidModulus, no_moduli())], then)

    def test_errors_of_steps_of(self):
        then = [(errors.InvalidOperation, (FRACTION_LAW,))]
        self.check_errors(steps_of, (Law.additive(2, modulus=5),), [no_laws()], then)
        self.check_errors(steps_of, (Law.additive(2),), [no_laws()], then)

    def test_errors_of_next_entry(self):
        none = no_objects() + package_objects() + [Row((0, 1)), Row((0, 2, 1)), Row((1, 1, 1))]
        logs = [Row((0, 1, Ratio(1, 4))), Row.plain(12), Row((0, 1, 0, Ratio(1, 2), Ratio(1, 9)))]
        then = [(errors.InvalidOperation, (log,)) for log in logs]
        self.check_errors(next_entry, (Row((0, 1, 3)),), [bad(errors.InvalidLog, none)], then)


class TestResidues(Checks):
    def test_all_laws(self):
        """6.4 and 0.12: each law once; which double rows are laws is told by trying all."""
        for degree, modulus in ((2, 5), (3, 2), (3, 4), (4, 2), (4, 3), (4, 6), (5, 2)):
            found = list(laws_modulo(degree, modulus))
            self.assertEqual(len(found), modulus ** (degree - 1))
            told = [steps_of(given) for given in found]
            wanted = itertools.product(range(modulus), repeat=degree - 1)
            self.assertEqual(told, list(wanted))
            for given, residues in zip(found, told):
                self.assertIs(type(given), Law)
                self.assertEqual((given.degree, given.modulus), (degree, modulus))
                self.assertEqual(law_of_steps(residues, modulus=modulus), given)
                self.assertEqual(law_of_steps(residues).led(modulus), given)
            if modulus ** len(self.free_places(degree)) <= 2000:
                self.assertEqual(self.all_laws(degree, modulus), self.sorted_texts(found))

    def free_places(self, degree):
        return [(i, n - i) for n in range(2, degree + 1) for i in range(1, n // 2 + 1)]

    def sorted_texts(self, found):
        return sorted(str(given.double.entries) for given in found)

    def all_laws(self, degree, modulus):
        found = []
        free = self.free_places(degree)
        for numbers in itertools.product(range(modulus), repeat=len(free)):
            entries = {(0, 1): 1, (1, 0): 1}
            for (i, j), number in zip(free, numbers):
                entries[i, j] = entries[j, i] = number
            double = Double(degree, entries, modulus=modulus)
            if slow_fault(double) is None:
                found.append(Law(double))
        return self.sorted_texts(found)

    def test_greater_lists(self):
        for degree, modulus in ((2, 10000), (3, 141), (7, 5), (10, 3), (12, 2)):
            count, last = 0, None
            for given in laws_modulo(degree, modulus):
                count, last = count + 1, given
            self.assertEqual(count, modulus ** (degree - 1))
            self.assertEqual(steps_of(last), (modulus - 1,) * (degree - 1))
            self.assertEqual(Law(last.double), last)

    def test_generator(self):
        found = laws_modulo(12, 2)
        self.assertIsInstance(found, types.GeneratorType)
        self.assertEqual(next(found), Law.additive(12, modulus=2))
        self.assertEqual(steps_of(next(found)), (0,) * 10 + (1,))
        late = laws_modulo("a", None)
        with self.assertRaises(errors.InvalidCount) as caught:
            next(late)
        self.assertEqual(caught.exception.value, "a")

    def test_errors_of_lists(self):
        then = [(3, 142), (12, 3), (4, 28), (11, 3), (6, 8)]
        self.check_errors(
            lambda degree, modulus: next(laws_modulo(degree, modulus)), (12, 2),
            [bad(errors.InvalidCount, no_counts(2, 12)), bad(errors.InvalidModulus, no_moduli() + [0])],
            [(errors.TooMany, pair) for pair in then])
        with self.assertRaises(errors.TooMany) as caught:
            next(laws_modulo(12, 10000))
        self.assertEqual(caught.exception.limit, 20000)

    def test_steps_and_laws(self):
        for modulus in (2, 3, 4, 6, 9, 10000):
            for given in some_laws(modulus):
                told = steps_of(given)
                self.assertEqual(len(told), given.degree - 1)
                self.assertTrue(all(type(one) is int and 0 <= one < modulus for one in told))
                self.assertEqual(law_of_steps(told, modulus=modulus), given)
                lift = lift_of(given)
                self.assertEqual(steps_of(lift), told)
                self.assertEqual(lift.led(modulus), given)
                self.assertIs(lift.is_whole, True)
                for degree in range(2, given.degree + 1):
                    self.assertEqual(steps_of(given.cut(degree)), told[:degree - 1])

    def test_lifts(self):
        five = law_of_steps((2, 1), modulus=5)
        lift = lift_of(five)
        self.assertIs(is_lift(five, lift), True)
        self.assertIs(is_lift(five, law_of_steps((7, 1))), law_of_steps((7, 1)).led(5) == five)
        long = moved_by(lift, 5 * 10 ** 58)
        for _ in range(30):
            long = moved_by(long, 5 * 10 ** 58)
        self.assertIs(is_lift(five, long), True)
        self.assertIs(is_lift(five, moved_by(long, 1)), False)
        self.assertIs(is_lift(five, moved_by(lift, 4)), False)
        self.assertIs(is_lift(five, moved_by(lift, Ratio(5, 2))), False)
        self.assertIs(is_lift(five, lift.cut(2)), False)
        self.assertIs(is_lift(five, five), False)
        self.assertIs(is_lift(five, extended(lift, 0)), False)
        self.assertIs(is_lift(five, lift.double), False)
        for value in no_objects() + package_objects():
            self.assertIs(is_lift(five, value), False)
        for call in (lift_of, lambda given: is_lift(given, 1)):
            then = [(errors.InvalidOperation, (Law.additive(2),)), (errors.InvalidOperation, (FRACTION_LAW,))]
            self.check_errors(call, (five,), [no_laws()], then)

    def test_not_true(self):
        """6.5."""
        one, other = law_of_steps((1, 0, 0)), law_of_steps((-1, 0, 0))
        self.assertNotEqual(one.led(2), other.led(2))
        self.assertNotEqual(steps_of(other.led(2)), tuple(step % 2 for step in steps_of(other)))


class TestMoved(Checks):
    def test_extended(self):
        for given in whole_laws():
            if given.degree == 12:
                self.refused(errors.InvalidOperation, extended, given, 0)
                continue
            for number in (0, 1, -7, SIXTY):
                other = extended(given, number)
                self.assertEqual(steps_of(other), steps_of(given) + (number,))
                self.assertEqual(other.cut(given.degree), given)
                self.assertIs(other.is_whole, True)
        for modulus in (2, 5, 6):
            for given in some_laws(modulus):
                for number in range(modulus):
                    other = extended(given, number)
                    self.assertEqual((other.degree, other.modulus), (given.degree + 1, modulus))
                    self.assertEqual(steps_of(other), steps_of(given) + (number,))
                    self.assertEqual(other.cut(given.degree), given)

    def test_errors_of_extended(self):
        whole = bad(errors.InvalidCount, no_integers() + package_objects())
        then = [(errors.InvalidOperation, (given, 1)) for given in (FRACTION_LAW, Law.additive(12))]
        self.check_errors(extended, (Law.additive(2), -SIXTY), [no_laws(), whole], then)
        residues = bad(errors.InvalidCount, no_counts(0, 4))
        then = [(errors.InvalidOperation, (Law.additive(12, modulus=5), 1))]
        self.check_errors(extended, (Law.additive(2, modulus=5), 4), [no_laws(), residues], then)

    def test_moved_by(self):
        """6.1."""
        for modulus in (0, 2, 4, 9):
            for given in some_laws(modulus):
                degree = given.degree
                step = step_double(degree, degree)
                step = step.led(modulus) if modulus else step
                for number in (0, 1, -3, SIXTY):
                    other = moved_by(given, number)
                    self.assertIs(is_law(other.double), True)
                    self.assertEqual(other.double.minus(given.double), step.scaled(number))
                    if degree > 2:
                        self.assertEqual(other.cut(degree - 1), given.cut(degree - 1))
        half = moved_by(Law.additive(4), Ratio(1, 2))
        self.assertEqual(half.double.at(2, 2), Ratio(3, 2))
        self.assertEqual(moved_by(Law.additive(2), long_ratio()).double.at(1, 1), long_ratio())

    def test_errors_of_moved_by(self):
        wrong = bad(errors.InvalidOperation, no_ratios() + package_objects())
        self.check_errors(moved_by, (FRACTION_LAW, Ratio(1, 2)), [no_laws(), wrong])
        wrong += bad(errors.InvalidOperation, [Ratio(1, 2), Ratio(3), long_ratio()])
        self.check_errors(moved_by, (Law.additive(3, modulus=5), SIXTY), [no_laws(), wrong])

    def test_first_difference(self):
        for modulus in (0, 2, 4, 9):
            found = some_laws(modulus)
            for one, other in itertools.product(found, repeat=2):
                self.check_difference(one, other)
            for given in found:
                self.assertIsNone(first_difference(given, given))
                self.assertIsNone(first_difference(given, given.cut(2)))
                for number in (1, -1, 5):
                    told = first_difference(given, moved_by(given, number))
                    worth = Ratio(number) if modulus == 0 else number % modulus
                    wanted = None if worth == 0 else (given.degree, worth)
                    self.assertEqual(told, wanted)
        told = first_difference(Law.additive(6), moved_by(Law.additive(4), Ratio(2, 3)))
        self.assertEqual(told, (4, Ratio(2, 3)))
        self.assertIsNone(first_difference(Law.additive(3), moved_by(Law.additive(4), 1)))

    def check_difference(self, one, other):
        told = first_difference(one, other)
        degree = min(one.degree, other.degree)
        if told is None:
            self.assertEqual(one.cut(degree), other.cut(degree))
            return
        n, number = told
        self.assertIs(type(number), int if one.modulus else Ratio)
        self.assertEqual(moved_by(one.cut(n), number), other.cut(n))
        self.assertNotEqual(one.cut(n), other.cut(n))
        if n > 2:
            self.assertEqual(one.cut(n - 1), other.cut(n - 1))

    def test_errors_of_first_difference(self):
        five = Law.additive(2, modulus=5)
        then = [(errors.InvalidOperation, pair) for pair in [(five, Law.additive(2)), (Law.additive(3), five)]]
        then += [(errors.InvalidOperation, (five, Law.additive(2, modulus=10)))]
        self.check_errors(first_difference, (five, five), [no_laws(), no_laws()], then)


if __name__ == "__main__":
    unittest.main()
