"""Promises 3.1 to 3.4: double rows, and what 0.1 to 0.11 say of them."""

import inspect
import itertools
import math
import unittest

from lawseries import errors
from lawseries.base.numbers import step_divisor
from lawseries.base.ratios import Ratio
from lawseries.double.doubles import (
    MAX_DOUBLE, Double, across, row_double, row_product, row_sum, step_double,
)
from lawseries.row.rows import Row
from tests.reference import Poly, fraction, letter, of_double, of_row, some_double, some_row
from tests.support import (
    LONG, SIXTY, Checks, bad, long_ratio, no_counts, no_integers, no_moduli, no_objects, no_ratios,
    no_tuples, others_than, package_objects,
)

MODULI = [0, 2, 4, 9, 10000]
DEGREES = [1, 2, 3, 5]


def places(degree):
    return [(i, n - i) for n in range(degree + 1) for i in range(n + 1)]


def sample(modulus, constant=True):
    found = [some_double(1, degree, modulus, constant) for degree in DEGREES]
    return found + [Double(3, {}, modulus=modulus), Double(4, {(2, 1): 1}, modulus=modulus)]


def curves(modulus):
    return [some_row(1, degree, modulus, (0,)) for degree in (0, 1, 3, 6)]


def put(double, one, other, degree):
    """The reference for a double row with two polynomials in its places."""
    return of_double(double).cut(degree).of(one, other)


class TestMaking(Checks):
    def test_interface(self):
        self.assertEqual(MAX_DOUBLE, 12)
        names = """
            __init__ entries degree modulus is_whole is_even at line plus minus times scaled swapped
            put_rows put_doubles cut led __eq__ __len__ __iter__ __str__
        """.split()
        for name in names:
            self.assertIn(name, vars(Double))
        for name in ("entries", "degree", "modulus", "is_whole", "is_even"):
            self.assertIsInstance(vars(Double)[name], property)
        for call in (Double, row_double, row_sum, row_product, step_double):
            self.assertEqual(call.__module__, "lawseries.double.doubles")
        self.assertEqual(str(inspect.signature(Double)), "(degree, entries, *, modulus=0)")
        self.assertEqual(str(inspect.signature(row_double)), "(row, double)")
        self.assertEqual(str(inspect.signature(row_sum)), "(one, other)")
        self.assertEqual(str(inspect.signature(row_product)), "(one, other)")
        self.assertEqual(str(inspect.signature(step_double)), "(number, degree)")

    def test_entries(self):
        given = {(2, 0): 5, (0, 2): Ratio(4, -6), (1, 1): 0, (0, 0): Ratio(3), (0, 1): -1}
        double = Double(3, given)
        wanted = {(0, 0): Ratio(3), (0, 1): Ratio(-1), (0, 2): Ratio(-2, 3), (2, 0): Ratio(5)}
        self.assertEqual(list(double.entries.items()), list(wanted.items()))
        self.assertEqual(list(double), list(wanted))
        self.assertEqual(len(double), 4)
        self.assertEqual((double.degree, double.modulus, double.is_whole), (3, 0, False))
        self.assertEqual(list(given), [(2, 0), (0, 2), (1, 1), (0, 0), (0, 1)])

    def test_order_of_places(self):
        every = {place: 1 for place in places(12)}
        self.assertEqual(list(Double(12, dict(reversed(list(every.items()))))), places(12))
        self.assertEqual(list(Double(12, every).entries), places(12))
        self.assertEqual(len(Double(12, every)), 91)

    def test_residues(self):
        double = Double(2, {(1, 1): 7, (2, 0): 5, (0, 1): -SIXTY}, modulus=5)
        self.assertEqual(list(double.entries.items()), [((0, 1), -SIXTY % 5), ((1, 1), 2)])
        self.assertIs(type(double.at(1, 1)), int)
        self.assertEqual((double.at(2, 0), double.modulus, double.is_whole), (0, 5, False))

    def test_properties(self):
        self.assertIs(Double(1, {}).is_whole, True)
        self.assertIs(Double(1, {(0, 1): Ratio(6, 3)}).is_whole, True)
        self.assertIs(Double(1, {(0, 1): Ratio(1, 3)}).is_whole, False)
        self.assertIs(Double(1, {}, modulus=3).is_whole, False)
        for modulus in MODULI:
            for double in sample(modulus):
                even = all(double.at(i, j) == double.at(j, i) for i, j in places(double.degree))
                self.assertIs(double.is_even, even)
                self.assertIs(double.plus(double.swapped()).is_even, True)
        self.assertIs(Double(2, {(0, 1): 1, (1, 0): 1}).is_even, True)

    def test_shares_nothing(self):
        given = {(0, 1): 1}
        double = Double(2, given)
        given[1, 1] = 5
        double.entries[2, 0] = Ratio(1)
        self.assertEqual(double.entries, {(0, 1): Ratio(1)})
        for name in ("entries", "degree", "modulus", "is_whole", "is_even"):
            with self.assertRaises(AttributeError):
                setattr(double, name, 7)

    def test_errors(self):
        wrong = no_objects() + package_objects()
        wrong = [value for value in wrong if not (isinstance(value, dict) and not value)]
        wrong += [{place: 1} for place in [
            (2, 1), (0, 4), (-1, 0), (0, -1), (-1, 2), (True, 0), (0, False), (1,), (0, 1, 0), (),
            "01", 1, None, ((0, 1), 0), ("0", 1), (None, 0), (LONG, 0), (0, -LONG), (LONG, -LONG),
            (0, (1,)), errors.InvalidCount(1),
        ]]
        wrong += [{(0, 1): value} for value in no_ratios() + package_objects()]
        wrong += [{(1, 1): 1, (0, 1): LONG}, {(1, 1): 1, (3, 0): 0}]
        later = [{(0, 1): Ratio(2)}, {(0, 1): 1, (0, 0): Ratio(0)}, {(1, 1): Ratio(1, 3)}]
        self.check_errors(
            lambda degree, entries, modulus: Double(degree, entries, modulus=modulus),
            (2, {(1, 1): 1}, 5),
            [
                bad(errors.InvalidCount, no_counts(1, 12)), bad(errors.InvalidDouble, wrong),
                bad(errors.InvalidModulus, no_moduli()),
            ],
            [(errors.InvalidDouble, (2, entries, 5)) for entries in later])

    def test_bounds(self):
        self.assertEqual(Double(1, {(0, 1): SIXTY, (1, 0): -SIXTY}).at(0, 1), Ratio(SIXTY))
        self.assertEqual(Double(12, {(12, 0): long_ratio()}).at(12, 0), long_ratio())
        self.assertEqual(Double(1, {(0, 0): 3}, modulus=2).at(0, 0), 1)
        self.refused(errors.InvalidDouble, Double, 12, {(12, 1): 1})

    def test_at_and_line(self):
        for modulus in MODULI:
            for double in sample(modulus):
                degree = double.degree
                for i in range(degree + 1):
                    told = [double.entries.get((i, j), 0) for j in range(degree + 1 - i)]
                    row = double.line(i)
                    self.assertEqual(row, Row(tuple(told), modulus=modulus))
                    self.assertEqual([double.at(i, j) for j in range(degree + 1 - i)], list(row))
        double = Double(3, {(1, 1): 2})
        counts = [bad(errors.InvalidCount, no_counts(0, 3)), bad(errors.InvalidCount, no_counts(0, 2))]
        self.check_errors(double.at, (1, 2), counts)
        for value in no_counts(0, 3):
            self.count_refused(value, double.line, value)
        self.count_refused(1, double.at, 3, 1)
        self.assertEqual(double.line(3), Row((0,)))


class TestReckoning(Checks):
    def test_sums_and_products(self):
        for modulus in MODULI:
            for one, other in itertools.product(sample(modulus), repeat=2):
                degree = min(one.degree, other.degree)
                left, right = of_double(one).cut(degree), of_double(other).cut(degree)
                self.assertEqual(of_double(one.plus(other)), left + right)
                self.assertEqual(of_double(one.minus(other)), left - right)
                self.assertEqual(of_double(one.times(other)), left * right)

    def test_to_the_greatest_degree(self):
        for modulus in (0, 9):
            one, other = some_double(1, 12, modulus), some_double(2, 12, modulus)
            self.assertEqual(of_double(one.times(other)), of_double(one) * of_double(other))

    def test_errors_of_two(self):
        for double in (Double(2, {(0, 1): 1}), Double(1, {}, modulus=5)):
            for call in (double.plus, double.minus, double.times):
                for value in others_than(Double):
                    self.refused(errors.InvalidDouble, call, value)
                for modulus in MODULI + [5]:
                    if modulus != double.modulus:
                        other = Double(2, {(0, 1): 1}, modulus=modulus)
                        self.refused(errors.InvalidOperation, call, other)

    def test_scaled(self):
        for modulus in MODULI:
            for double in sample(modulus):
                for number in (0, 1, -1, 7, SIXTY):
                    wanted = of_double(double).scaled(number)
                    self.assertEqual(of_double(double.scaled(number)), wanted)
        for number in (Ratio(1, 2), Ratio(-3, 7), Ratio(4), long_ratio()):
            for double in sample(0):
                wanted = of_double(double).scaled(fraction(number))
                self.assertEqual(of_double(double.scaled(number)), wanted)
            self.refused(errors.InvalidOperation, Double(1, {}, modulus=5).scaled, number)
        for double in (Double(1, {(0, 1): 1}), Double(1, {}, modulus=5)):
            for value in no_ratios() + package_objects():
                self.refused(errors.InvalidOperation, double.scaled, value)

    def test_swapped(self):
        for modulus in MODULI:
            for double in sample(modulus):
                terms = {(j, i): number for (i, j), number in of_double(double).terms.items()}
                self.assertEqual(of_double(double.swapped()), of_double(double).like(terms))
                self.assertIs(double.swapped() == double, double.is_even)

    def test_cut_and_led(self):
        for modulus in MODULI:
            for double in sample(modulus):
                for degree in range(1, double.degree + 1):
                    self.assertEqual(of_double(double.cut(degree)), of_double(double).cut(degree))
                for value in no_counts(1, double.degree):
                    self.count_refused(value, double.cut, value)
                for value in no_moduli() + [0]:
                    self.refused(errors.InvalidModulus, double.led, value)

    def test_led_ratios(self):
        for modulus in (2, 3, 4, 6, 7, 9997, 10000):
            for double in sample(0):
                bottoms = [entry.bottom for entry in double.entries.values()]
                if any(math.gcd(bottom, modulus) != 1 for bottom in bottoms):
                    self.refused(errors.InvalidOperation, double.led, modulus)
                    continue
                terms = {
                    place: entry.top * pow(entry.bottom, -1, modulus)
                    for place, entry in double.entries.items()
                }
                self.assertEqual(of_double(double.led(modulus)), Poly(2, double.degree, terms, modulus))

    def test_led_residues(self):
        double = Double(2, {(0, 1): 7, (1, 1): 6}, modulus=12)
        self.assertEqual(double.led(6).entries, {(0, 1): 1})
        self.assertEqual(double.led(12), double)
        for modulus in (5, 8, 24):
            self.refused(errors.InvalidOperation, double.led, modulus)

    def test_reckoning_is_led(self):
        one, other = some_double(3, 4, 0, False), some_double(4, 4, 0, False)
        self.assertEqual(math.gcd(one.common_bottom * other.common_bottom, 9997), 1)
        for name in ("plus", "minus", "times"):
            led = getattr(one.led(9997), name)(other.led(9997))
            self.assertEqual(getattr(one, name)(other).led(9997), led)
        put_in = one.put_doubles(other, one).led(9997)
        self.assertEqual(put_in, one.led(9997).put_doubles(other.led(9997), one.led(9997)))


class TestPutting(Checks):
    def test_put_rows(self):
        for modulus in MODULI:
            for double in sample(modulus):
                for one, other in itertools.product(curves(modulus), repeat=2):
                    degree = min(double.degree, one.degree, other.degree)
                    wanted = put(double, of_row(one).cut(degree), of_row(other).cut(degree), degree)
                    self.assertEqual(of_row(double.put_rows(one, other)), wanted)

    def test_put_rows_to_the_greatest_degree(self):
        double, one = some_double(1, 12), some_row(1, 24, 0, (0,))
        wanted = put(double, of_row(one).cut(12), letter(0, 1, 12), 12)
        self.assertEqual(of_row(double.put_rows(one, Row.plain(13))), wanted)

    def test_errors_of_put_rows(self):
        curve, third = Row((0, 1, 2)), Row((0, 1), modulus=5)
        wrong = bad(errors.InvalidCurve, others_than(Row) + [Row((1, 1)), Row((Ratio(1, 2),))])
        wrong += bad(errors.InvalidCurve, [Row((1, 1), modulus=5)])
        pairs = [(third, third), (curve, third), (third, curve)]
        then = [(errors.InvalidOperation, pair) for pair in pairs]
        self.check_errors(Double(2, {(0, 0): 1}).put_rows, (curve, curve), [wrong, wrong], then)
        then = [(errors.InvalidOperation, (curve, curve)), (errors.InvalidOperation, (third, curve))]
        self.check_errors(Double(2, {}, modulus=5).put_rows, (third, third), [wrong, wrong], then)

    def test_put_doubles(self):
        for modulus in MODULI:
            for double in sample(modulus):
                for one, other in itertools.product(sample(modulus, False), repeat=2):
                    degree = min(double.degree, one.degree, other.degree)
                    left, right = of_double(one).cut(degree), of_double(other).cut(degree)
                    wanted = put(double, left, right, degree)
                    self.assertEqual(of_double(double.put_doubles(one, other)), wanted)

    def test_errors_of_put_doubles(self):
        good, five = Double(2, {(1, 0): 1}), Double(2, {(1, 0): 1}, modulus=5)
        wrong = bad(errors.InvalidDouble, others_than(Double))
        one = Double(1, {(0, 0): 1})
        pairs = [(five, five), (good, five), (five, good), (one, good), (good, one), (one, one)]
        then = [(errors.InvalidOperation, pair) for pair in pairs]
        self.check_errors(good.put_doubles, (good, good), [wrong, wrong], then)
        one = Double(2, {(0, 0): 6}, modulus=5)
        self.refused(errors.InvalidOperation, five.put_doubles, one, five)

    def test_sums_and_products_are_led(self):
        """3.2: to sums and products."""
        for modulus in (0, 9):
            first, second = some_double(5, 4, modulus), some_double(6, 4, modulus)
            one, other = some_row(5, 4, modulus, (0,)), some_row(6, 4, modulus, (0,))
            for name in ("plus", "times"):
                both = getattr(first, name)(second).put_rows(one, other)
                apart = getattr(first.put_rows(one, other), name)(second.put_rows(one, other))
                self.assertEqual(both, apart)

    def test_row_double(self):
        for modulus in MODULI:
            for double in sample(modulus, False):
                for row in [some_row(1, degree, modulus) for degree in (1, 2, 4, 7)]:
                    degree = min(row.degree, double.degree)
                    wanted = of_row(row).cut(degree).of(of_double(double).cut(degree))
                    self.assertEqual(of_double(row_double(row, double)), wanted)

    def test_row_of_a_row_of_a_double_row(self):
        for modulus in (0, 4):
            row, curve = some_row(1, 4, modulus), some_row(2, 4, modulus, (0,))
            double = some_double(1, 4, modulus, False)
            once = row_double(row.put_in(curve), double)
            self.assertEqual(once, row_double(row, row_double(curve, double)))

    def test_errors_of_row_double(self):
        good = (Row((1, 1)), Double(1, {(0, 1): 1}))
        wrong = [
            bad(errors.InvalidRow, others_than(Row)), bad(errors.InvalidDouble, others_than(Double)),
        ]
        five = Double(1, {(0, 1): 1}, modulus=5)
        pairs = [(Row((1,)), good[1]), (good[0], Double(1, {(0, 0): 1})), (good[0], five)]
        pairs += [(Row((1, 1), modulus=5), good[1])]
        then = [(errors.InvalidOperation, pair) for pair in pairs]
        self.check_errors(row_double, good, wrong, then)

    def test_row_sum_and_product(self):
        for modulus in MODULI:
            found = [some_row(seed, degree, modulus) for seed, degree in ((1, 1), (2, 3), (3, 14))]
            for one, other in itertools.product(found, repeat=2):
                degree = min(one.degree, other.degree, 12)
                x, y = letter(0, 2, degree, modulus), letter(1, 2, degree, modulus)
                left, right = of_row(one).cut(degree).of(x), of_row(other).cut(degree).of(y)
                self.assertEqual(of_double(row_sum(one, other)), left + right)
                self.assertEqual(of_double(row_product(one, other)), left * right)

    def test_errors_of_row_sum_and_product(self):
        good = (Row((1, 1)), Row((0, 1)))
        wrong = bad(errors.InvalidRow, others_than(Row))
        third = Row((1, 1), modulus=5)
        pairs = [(Row((1,)), good[1]), (good[0], Row((0,))), (third, good[0]), (good[0], third)]
        then = [(errors.InvalidOperation, pair) for pair in pairs]
        for call in (row_sum, row_product):
            self.check_errors(call, good, [wrong, wrong], then)
        self.assertEqual(row_sum(Row.plain(24), Row.plain(24)).degree, 12)

    def test_across(self):
        for modulus in MODULI:
            for double in sample(modulus):
                for one, other in itertools.product(curves(modulus)[1:], repeat=2):
                    degree = min(double.degree, one.degree, other.degree)
                    x, y = letter(0, 2, degree, modulus), letter(1, 2, degree, modulus)
                    left, right = of_row(one).cut(degree).of(x), of_row(other).cut(degree).of(y)
                    wanted = put(double, left, right, degree)
                    self.assertEqual(of_double(across(double, one, other)), wanted)


class TestSteps(Checks):
    def test_entries(self):
        for number in range(2, 13):
            divisor = step_divisor(number)
            wanted = {
                (i, number - i): Ratio(math.comb(number, i), divisor) for i in range(1, number)
            }
            for degree in range(number, 13):
                step = step_double(number, degree)
                self.assertEqual(step.entries, wanted)
                self.assertEqual((step.degree, step.modulus, step.is_whole), (degree, 0, True))
            self.assertEqual(math.gcd(*[entry.top for entry in step.entries.values()]), 1)

    def test_three_letters(self):
        """3.3: C(x, y) + C(x + y, z) = C(y, z) + C(x, y + z)."""
        for number in range(2, 9):
            step = of_double(step_double(number, number))
            x, y, z = [letter(at, 3, number) for at in range(3)]
            left = step.of(x, y) + step.of(x + y, z)
            self.assertEqual(left, step.of(y, z) + step.of(x, y + z))

    def test_only_multiples(self):
        """3.3: nothing else even does so; here for entries from 0 to 6."""
        for number in (4, 5):
            x, y, z = [letter(at, 3, number) for at in range(3)]
            found = []
            half = range(1, number // 2 + 1)
            for tops in itertools.product(range(7), repeat=len(half)):
                entries = {(i, number - i): top for i, top in zip(half, tops)}
                entries.update({(j, i): top for (i, j), top in list(entries.items())})
                some = of_double(Double(number, entries))
                if some.of(x, y) + some.of(x + y, z) == some.of(y, z) + some.of(x, y + z):
                    found.append(tops)
            step = step_double(number, number)
            tops = [step.at(i, number - i).top for i in half]
            multiples = [tuple(top * times for top in tops) for times in range(7)]
            self.assertEqual(found, [told for told in multiples if max(told) < 7])

    def test_errors(self):
        counts = [
            bad(errors.InvalidCount, no_counts(2, 12)), bad(errors.InvalidCount, no_counts(4, 12)),
        ]
        self.check_errors(step_double, (4, 6), counts)
        self.count_refused(11, step_double, 12, 11)
        self.count_refused(1, step_double, 1, 13)


class TestEqualAndTexts(Checks):
    def test_equal(self):
        double = Double(2, {(0, 1): 1, (1, 1): Ratio(2, 4)})
        self.assertIs(double == Double(2, {(1, 1): Ratio(1, 2), (0, 1): Ratio(1), (0, 0): 0}), True)
        self.assertIs(double != Double(2, {(1, 1): Ratio(1, 2), (0, 1): Ratio(1)}), False)
        unlike = [
            double, double.swapped(), Double(3, double.entries), Double(2, {(0, 1): 1}), Double(1, {}),
            Double(2, {(0, 1): 1}, modulus=5), Double(2, {(0, 1): 1}, modulus=7), Double(2, {}),
            Double(2, {(0, 1): 2}), Double(1, {(0, 1): 1}),
        ]
        for one, other in itertools.permutations(unlike, 2):
            self.assertIs(one == other, False)
            self.assertIs(one != other, True)
        self.assertIs(Double(1, {(0, 1): 7}, modulus=5) == Double(1, {(0, 1): 2}, modulus=5), True)

    def test_every_value(self):
        for double in (Double(2, {(0, 1): 1}), Double(1, {}, modulus=5)):
            for value in no_objects() + others_than(Double) + no_tuples() + [double.entries]:
                self.assertIs(double == value, False)
                self.assertIs(double != value, True)
                self.assertIs(value == double, False)
            for value in no_integers() + [1]:
                self.assertIs(value in double, False)
        self.assertIn((0, 1), Double(2, {(0, 1): 1}))
        self.assertNotIn((1, 0), Double(2, {(0, 1): 1}))

    def test_texts(self):
        self.assertEqual(str(Double(3, {})), "double row of degree 3")
        self.assertEqual(str(Double(12, {}, modulus=10000)), "double row of degree 12 modulo 10000")


class TestNotTrue(Checks):
    """3.4: what is not true."""

    def test_product_0(self):
        x_row = Double(2, {(2, 0): 1})
        self.assertEqual(x_row.times(x_row), Double(2, {}))
        two = Double(2, {(0, 0): 2}, modulus=4)
        self.assertEqual(two.times(two), Double(2, {}, modulus=4))

    def test_not_even(self):
        even, one = Double(2, {(0, 1): 1, (1, 0): 1}), Double(2, {(1, 0): 1})
        self.assertIs(even.is_even, True)
        self.assertIs(even.put_doubles(one, one).is_even, False)


if __name__ == "__main__":
    unittest.main()
