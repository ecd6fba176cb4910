"""Promises 4.1 to 4.5: laws, and what 0.1 to 0.10 say of them."""

import inspect
import itertools
import unittest

from lawseries import errors
from lawseries.base.ratios import Ratio
from lawseries.double.doubles import Double, across, row_double
from lawseries.law.laws import MAX_LAW, Law, fault, is_law
from lawseries.log.logs import law_of_log
from lawseries.row.rows import Row
from tests.reference import (
    letter, of_double, of_row, slow_fault, some_laws, some_log, some_row,
)
from tests.support import (
    SIXTY, Checks, bad, no_counts, no_integers, no_moduli, no_objects, others_than, package_objects,
)

MODULI = [0, 2, 4, 5, 6, 10000]


def curves_for(given):
    degrees = (0, 1, given.degree - 1, given.degree, given.degree + 3)
    found = [some_row(seed, degree, given.modulus, (0,)) for seed, degree in enumerate(degrees)]
    return found + [Row((0, 0), modulus=given.modulus)]


def zero(degree, modulus):
    return Row((0,) * (degree + 1), modulus=modulus)


def with_changed_entry(double, place, number):
    entries = double.entries
    old = entries.get(place, 0)
    entries[place] = old.plus(number) if isinstance(old, Ratio) else old + number
    return Double(double.degree, entries, modulus=double.modulus)


class TestMaking(Checks):
    def test_interface(self):
        self.assertEqual(MAX_LAW, 12)
        names = """
            __init__ additive multiplicative quadric double degree modulus is_whole sum_of against
            multiple changed led cut __eq__ __str__
        """.split()
        for name in names:
            self.assertIn(name, vars(Law))
        for name in ("additive", "multiplicative", "quadric"):
            self.assertIsInstance(vars(Law)[name], classmethod)
        for name in ("double", "degree", "modulus", "is_whole"):
            self.assertIsInstance(vars(Law)[name], property)
        for call in (Law, fault, is_law):
            self.assertEqual(call.__module__, "lawseries.law.laws")
        self.assertEqual(str(inspect.signature(Law)), "(double)")
        self.assertEqual(str(inspect.signature(Law.additive)), "(degree, *, modulus=0)")
        self.assertEqual(str(inspect.signature(Law.multiplicative)), "(degree, number, *, modulus=0)")
        self.assertEqual(str(inspect.signature(Law.quadric)), "(degree, a, b, *, modulus=0)")
        self.assertEqual(str(inspect.signature(fault)), "(double)")

    def test_properties(self):
        for modulus in MODULI:
            for given in some_laws(modulus):
                double = given.double
                self.assertEqual((given.degree, given.modulus), (double.degree, double.modulus))
                self.assertIs(given.is_whole, double.is_whole)
                self.assertEqual(Law(double), given)
                self.assertIs(type(given), Law)
                self.assertIs(type(double), Double)
        self.assertIs(Law.additive(2).is_whole, True)
        self.assertIs(Law.additive(2, modulus=2).is_whole, False)
        self.assertIs(law_of_log(Row((0, 1, Ratio(1, 4)))).is_whole, False)
        for name in ("double", "degree", "modulus", "is_whole"):
            with self.assertRaises(AttributeError):
                setattr(Law.additive(2), name, 7)
        for call in (iter, list):
            with self.assertRaises(TypeError):
                call(Law.additive(2))

    def test_told_laws(self):
        """4.3."""
        for modulus in MODULI:
            for degree in (2, 3, 5, 8):
                x, y = letter(0, 2, degree, modulus), letter(1, 2, degree, modulus)
                self.assertEqual(of_double(Law.additive(degree, modulus=modulus).double), x + y)
                for a, b in itertools.product((0, 1, -2, 7), repeat=2):
                    given = Law.quadric(degree, a, b, modulus=modulus)
                    top, bottom = x + y - (x * y).scaled(a), x.one() + (x * y).scaled(b)
                    self.assertEqual(of_double(given.double) * bottom, top)
                    self.assertIsNone(slow_fault(given.double))
                    other = Law.multiplicative(degree, -a, modulus=modulus)
                    self.assertEqual(of_double(other.double), top)
                    self.assertIs(given == other, (b % modulus if modulus else b) == 0 or degree < 3)
        long = Law.quadric(12, SIXTY, -SIXTY)
        self.assertEqual(long.double.at(1, 1), Ratio(-SIXTY))
        self.assertEqual(long.double.at(2, 1), Ratio(SIXTY))
        self.assertEqual(Law(long.double), long)

    def test_errors_of_told_laws(self):
        degrees, moduli = bad(errors.InvalidCount, no_counts(2, 12)), no_moduli()
        integers, moduli = bad(errors.InvalidCount, no_integers()), bad(errors.InvalidModulus, moduli)
        self.check_errors(
            lambda degree, modulus: Law.additive(degree, modulus=modulus), (12, 5),
            [degrees, moduli])
        self.check_errors(
            lambda degree, number, modulus: Law.multiplicative(degree, number, modulus=modulus),
            (2, SIXTY, 10000), [degrees, integers, moduli])
        self.check_errors(
            lambda degree, a, b, modulus: Law.quadric(degree, a, b, modulus=modulus),
            (2, 1, -SIXTY, 0), [degrees, integers, integers, moduli])

    def test_errors(self):
        then = [
            Double(1, {(0, 1): 1, (1, 0): 1}), Double(3, {(1, 0): 1}), Double(2, {}),
            Double(2, {(0, 1): 1, (1, 0): 1}, modulus=5).scaled(2),
            Double(4, {(0, 1): 1, (1, 0): 1, (2, 2): 1}),
            Double(4, {(0, 1): 1, (1, 0): 1, (2, 2): 1}, modulus=5),
        ]
        self.check_errors(
            Law, (Double(2, {(0, 1): 1, (1, 0): 1}),),
            [bad(errors.InvalidDouble, others_than(Double))],
            [(errors.InvalidLaw, (double,)) for double in then])

    def test_led_and_cut(self):
        for modulus in MODULI:
            for given in some_laws(modulus):
                for degree in range(2, given.degree + 1):
                    self.assertEqual(given.cut(degree).double, given.double.cut(degree))
                for value in no_counts(2, given.degree)[::3] + [1, given.degree + 1]:
                    self.count_refused(value, given.cut, value)
                for value in no_moduli()[::3] + [0]:
                    self.refused(errors.InvalidModulus, given.led, value)
        for value in no_counts(2, 3):
            self.count_refused(value, Law.additive(3).cut, value)
        for value in no_moduli() + [0]:
            self.refused(errors.InvalidModulus, Law.additive(3).led, value)
        half = law_of_log(Row((0, 1, Ratio(1, 4))))
        self.assertEqual(half.led(9).double, half.double.led(9))
        for modulus in (2, 6, 10000):
            self.refused(errors.InvalidOperation, half.led, modulus)
        twelve = Law.quadric(5, 1, 2, modulus=12)
        self.assertEqual(twelve.led(6), Law.quadric(5, 1, 2, modulus=6))
        for modulus in (5, 8, 24):
            self.refused(errors.InvalidOperation, twelve.led, modulus)

    def test_equal_and_texts(self):
        found = [
            Law.additive(2), Law.additive(3), Law.multiplicative(3, 1), Law.multiplicative(3, 2),
            Law.additive(2, modulus=2), Law.additive(2, modulus=3), law_of_log(Row((0, 1, Ratio(1, 4)))),
        ]
        for one, other in itertools.permutations(found, 2):
            self.assertIs(one == other, False)
            self.assertIs(one != other, True)
        self.assertIs(Law.multiplicative(3, 6, modulus=5) == Law.multiplicative(3, 1, modulus=5), True)
        self.assertIs(Law.additive(2) != Law.multiplicative(2, 0), False)
        for value in no_objects() + others_than(Law) + [Law.additive(2).double]:
            self.assertIs(Law.additive(2) == value, False)
            self.assertIs(value == Law.additive(2), False)
        self.assertEqual(str(Law.additive(6)), "law of degree 6")
        self.assertEqual(str(Law.additive(12, modulus=10000)), "law of degree 12 modulo 10000")


class TestSums(Checks):
    def test_sum_of(self):
        for modulus in MODULI:
            for given in some_laws(modulus)[1:]:
                for one, other in itertools.product(curves_for(given), repeat=2):
                    degree = min(given.degree, one.degree, other.degree)
                    left, right = of_row(one).cut(degree), of_row(other).cut(degree)
                    wanted = of_double(given.double).cut(degree).of(left, right)
                    self.assertEqual(of_row(given.sum_of(one, other)), wanted)

    def test_group(self):
        """4.1: sums do not depend on the sequence; 0 is the zero; each curve has one against it."""
        for modulus in MODULI:
            for given in some_laws(modulus):
                degree = given.degree
                one, other, third = [some_row(at, degree, modulus, (0,)) for at in range(3)]
                self.assertEqual(given.sum_of(one, other), given.sum_of(other, one))
                left = given.sum_of(given.sum_of(one, other), third)
                self.assertEqual(left, given.sum_of(one, given.sum_of(other, third)))
                self.assertEqual(given.sum_of(one, zero(degree, modulus)), one)
                for curve in curves_for(given):
                    against, lesser = given.against(curve), min(degree, curve.degree)
                    self.assertEqual(against.degree, lesser)
                    self.assertEqual(given.sum_of(curve, against), zero(lesser, modulus))
                    self.assertEqual(given.against(against), curve.cut(lesser))

    def test_errors_of_sums(self):
        curve, third = Row((0, 1, 2)), Row((0, 1), modulus=5)
        none = others_than(Row) + [Row((1, 1)), Row((Ratio(1, 2),)), Row((6, 1), modulus=5)]
        none = bad(errors.InvalidCurve, none)
        pairs = [(third, third), (curve, third), (third, curve)]
        then = [(errors.InvalidOperation, pair) for pair in pairs]
        self.check_errors(Law.additive(3).sum_of, (curve, curve), [none, none], then)
        then = [(errors.InvalidOperation, (third,))]
        self.check_errors(Law.additive(3).against, (curve,), [none], then)
        then = [(errors.InvalidOperation, (curve,)), (errors.InvalidOperation, (Row((0,)),))]
        self.check_errors(Law.additive(3, modulus=5).against, (third,), [none], then)

    def test_multiples(self):
        for modulus in MODULI:
            for given in some_laws(modulus):
                plain = Row.plain(given.degree, modulus=modulus)
                total = zero(given.degree, modulus)
                for number in range(8):
                    multiple = given.multiple(number)
                    self.assertEqual(multiple, total)
                    self.assertEqual(multiple.at(1), plain.scaled(number).at(1))
                    self.assertEqual(multiple.degree, given.degree)
                    self.assertEqual(given.multiple(-number), given.against(total))
                    total = given.sum_of(total, plain)

    def test_multiples_of_multiples(self):
        for modulus in MODULI:
            for given in some_laws(modulus):
                for one, other in [(2, 3), (-2, 5), (7, -1), (-3, -3), (0, 4), (40, 25)]:
                    first, second = given.multiple(one), given.multiple(other)
                    self.assertEqual(first.put_in(second), given.multiple(one * other))
                    self.assertEqual(given.sum_of(first, second), given.multiple(one + other))

    def test_bounds_of_multiples(self):
        given = Law.multiplicative(3, 1)
        for number in (1000, -1000):
            multiple = given.multiple(number)
            choose = (number, number * (number - 1) // 2, number * (number - 1) * (number - 2) // 6)
            self.assertEqual(multiple.whole(), (0,) + choose)
        for one in (given, Law.multiplicative(3, 1, modulus=5)):
            for value in no_counts(-1000, 1000):
                self.count_refused(value, one.multiple, value)


class TestChanged(Checks):
    def test_u_leads_to_it(self):
        """4.2: u(F(x, y)) is G(u(x), u(y)), and G is F changed back."""
        for modulus in MODULI:
            for given in some_laws(modulus):
                for degree, first in ((2, 1), (4, -1), (9, 1)):
                    row = some_row(1, degree, modulus, (0, first))
                    other = given.changed(row)
                    lesser = min(degree, given.degree)
                    self.assertEqual((other.degree, other.modulus), (lesser, modulus))
                    self.assertIs(is_law(other.double), True)
                    ahead, cut = row.cut(lesser), given.cut(lesser)
                    led = across(other.double, ahead, ahead)
                    self.assertEqual(row_double(ahead, cut.double), led)
                    self.assertEqual(other.changed(ahead.turned_back()), cut)

    def test_by_its_definition(self):
        for modulus in (0, 5):
            first = Ratio(2, 3) if modulus == 0 else 2
            for given in some_laws(modulus)[1:4]:
                row = some_row(3, given.degree, modulus, (0, first))
                back = of_row(row.turned_back())
                x = letter(0, 2, given.degree, modulus)
                y = letter(1, 2, given.degree, modulus)
                wanted = of_row(row).of(of_double(given.double).of(back.of(x), back.of(y)))
                self.assertEqual(of_double(given.changed(row).double), wanted)

    def test_errors(self):
        good, five = Row((0, 2, 1)), Row((0, 2, 1), modulus=6)
        later = [
            Row((0, 1, 0), modulus=5), Row((0, 1)), Row((0,)), Row((1, 1, 0)), Row((0, 0, 1)), five,
        ]
        then = [(errors.InvalidOperation, (row,)) for row in later]
        wrong = [bad(errors.InvalidRow, others_than(Row))]
        self.check_errors(Law.additive(3).changed, (good,), wrong, then)
        self.refused(errors.InvalidOperation, Law.additive(3, modulus=6).changed, five)
        self.refused(errors.InvalidOperation, Law.additive(3, modulus=6).changed, good)


class TestFaults(Checks):
    def test_of_changed_entries(self):
        """4.4: each entry of some laws is changed; the fault is told by the definition."""
        for modulus in MODULI:
            for given in some_laws(modulus)[:8]:
                double = given.double.cut(min(5, given.degree))
                self.assertIsNone(fault(double))
                for number in (1, 3):
                    for place in [(i, n - i) for n in range(double.degree + 1) for i in range(n + 1)]:
                        self.check_fault(with_changed_entry(double, place, number))
                        both = with_changed_entry(double, place, number)
                        self.check_fault(with_changed_entry(both, place[::-1], number))

    def check_fault(self, double):
        told = fault(double)
        self.assertEqual(told, slow_fault(double))
        self.assertIs(is_law(double), told is None)
        if told is None:
            self.assertEqual(Law(double).double, double)
        else:
            self.refused(errors.InvalidLaw, Law, double)

    def test_of_laws_by_logs(self):
        for seed in range(4):
            double = law_of_log(some_log(seed, 7)).double
            self.assertIsNone(fault(double))
            for place in ((3, 3), (2, 5)):
                both = with_changed_entry(double, place, Ratio(1, 3))
                self.check_fault(both)
                self.check_fault(with_changed_entry(both, place[::-1], Ratio(1, 3)))

    def test_of_the_greatest_degree(self):
        double = Law.quadric(12, 1, 2).double
        self.assertIsNone(fault(double))
        self.assertEqual(fault(with_changed_entry(double, (6, 6), 1)), ("group", (1, 5, 6)))
        self.assertEqual(slow_fault(with_changed_entry(double, (6, 6), 1)), ("group", (1, 5, 6)))

    def test_first_places(self):
        added = {(0, 1): 1, (1, 0): 1}
        told = [
            ({(0, 0): 1}, ("plain", (0, 0))), ({}, ("plain", (0, 1))),
            ({(0, 1): 1}, ("plain", (1, 0))), ({**added, (0, 2): 1, (2, 0): 1}, ("plain", (0, 2))),
            ({**added, (2, 0): 1, (0, 3): 1}, ("plain", (2, 0))),
            ({**added, (3, 0): 1, (1, 2): 1}, ("plain", (3, 0))),
            ({**added, (1, 2): 1, (3, 1): 5}, ("swap", (1, 2))),
            ({**added, (3, 1): 1, (2, 2): 1}, ("swap", (1, 3))),
            ({**added, (2, 2): 1}, ("group", (1, 1, 2))),
        ]
        for entries, wanted in told:
            self.assertEqual(fault(Double(4, entries)), wanted)
            self.assertEqual(fault(Double(4, entries, modulus=7)), wanted)
            self.assertEqual(slow_fault(Double(4, entries)), wanted)

    def test_up_to_the_degree_3(self):
        """4.5: all even ones are laws to 3, not all to 4."""
        for modulus in (0, 2, 6):
            for one, two in itertools.product((0, 1, -1, 5), repeat=2):
                entries = {(0, 1): 1, (1, 0): 1, (1, 1): one, (1, 2): two, (2, 1): two}
                double = Double(3, entries, modulus=modulus)
                self.assertIs(is_law(double), True)
                self.assertIsNone(slow_fault(double))
                fault(Double(2, {(0, 1): 1, (1, 0): 1, (1, 1): one}, modulus=modulus))
        self.assertIs(is_law(Double(4, {(0, 1): 1, (1, 0): 1, (2, 2): 1})), False)

    def test_errors(self):
        then = [(errors.InvalidOperation, (Double(1, {(0, 1): 1, (1, 0): 1}),))]
        then += [(errors.InvalidOperation, (Double(1, {}, modulus=2),))]
        wrong = [bad(errors.InvalidDouble, others_than(Double))]
        self.check_errors(fault, (Double(2, {}),), wrong, then)

    def test_is_law(self):
        for value in no_objects() + others_than(Double) + [Double(1, {(0, 1): 1, (1, 0): 1})]:
            self.assertIs(is_law(value), False)
        for value in package_objects():
            if isinstance(value, Law):
                self.assertIs(is_law(value), False)
                self.assertIs(is_law(value.double), True)

    def test_k_fold_modulo_k(self):
        """4.5: [k] modulo k is not 0."""
        self.assertEqual(str(Law.multiplicative(6, 1, modulus=5).multiple(5)), "x^5 to 6 modulo 5")


if __name__ == "__main__":
    unittest.main()
