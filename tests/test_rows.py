"""Promises 2.1 to 2.4: rows, and what 0.1 to 0.9 say of them."""

import inspect
import itertools
import math
import unittest
from fractions import Fraction

from lawseries import errors
from lawseries.base.ratios import Ratio
from lawseries.double.doubles import Double
from lawseries.row import rows
from lawseries.row.rows import MAX_ROW, Row, exp_of_row, log_of_row, power_entry
from tests.reference import Poly, fraction, letter, of_row, some_row
from tests.support import (
    LONG, SIXTY, Checks, bad, long_integers, long_ratio, no_counts, no_moduli, no_objects,
    no_ratios, no_tuples, others_than, package_objects,
)

MODULI = [0, 2, 4, 5, 6, 9, 10000]
DEGREES = [0, 1, 2, 3, 5, 8]


def sample(modulus):
    return [some_row(seed, degree, modulus) for degree in DEGREES for seed in range(2)] + [
        Row((0,), modulus=modulus), Row((0,) * 4, modulus=modulus), Row((0, 0, 3), modulus=modulus),
    ]


def curves(modulus):
    return [some_row(seed, degree, modulus, (0,)) for degree in DEGREES for seed in range(2)] + [
        Row((0,), modulus=modulus), Row((0, 0, 0, 1), modulus=modulus),
    ]


def units(modulus):
    """Some numbers that can be divided by, and for the modulus 0 a ratio."""
    if modulus == 0:
        return [1, -1, 3, Ratio(-2, 5)]
    return [1, modulus - 1] + [n for n in range(2, 12) if math.gcd(n, modulus) == 1][:2]


class TestMaking(Checks):
    def test_interface(self):
        self.assertEqual(MAX_ROW, 24)
        names = """
            __init__ plain entries degree modulus order is_whole at whole plus minus times scaled
            raised reciprocal put_in turned_back derived summed_up cut spread led __eq__ __len__
            __iter__ __str__
        """.split()
        for name in names:
            self.assertIn(name, vars(Row))
        self.assertIsInstance(vars(Row)["plain"], classmethod)
        for name in ("entries", "degree", "modulus", "order", "is_whole"):
            self.assertIsInstance(vars(Row)[name], property)
        for call in (Row, exp_of_row, log_of_row, power_entry):
            self.assertEqual(call.__module__, "lawseries.row.rows")
        self.assertEqual(str(inspect.signature(Row)), "(entries, *, modulus=0)")
        self.assertEqual(str(inspect.signature(Row.plain)), "(degree, *, modulus=0)")
        self.assertEqual(str(inspect.signature(power_entry)), "(row, many, index)")

    def test_ratios(self):
        row = Row((0, 2, Ratio(2, -4), Ratio(3)))
        self.assertEqual(row.entries, (Ratio(0), Ratio(2), Ratio(-1, 2), Ratio(3)))
        self.assertEqual([type(entry) for entry in row.entries], [Ratio] * 4)
        self.assertEqual((row.degree, row.modulus, row.order, row.is_whole), (3, 0, 1, False))
        self.assertEqual((len(row), list(row)), (4, list(row.entries)))

    def test_residues(self):
        row = Row((-1, 5, 7, SIXTY, -SIXTY), modulus=5)
        self.assertEqual(row.entries, (4, 0, 2, SIXTY % 5, -SIXTY % 5))
        self.assertEqual([type(entry) for entry in row.entries], [int] * 5)
        self.assertEqual((row.degree, row.modulus, row.order, row.is_whole), (4, 5, 0, False))
        self.assertEqual(row.whole(), row.entries)
        self.assertEqual(list(row), list(row.entries))

    def test_properties(self):
        self.assertIs(Row((0, 1)).is_whole, True)
        self.assertIs(Row((Ratio(4, 2),)).is_whole, True)
        self.assertIs(Row((0, 1), modulus=2).is_whole, False)
        self.assertIsNone(Row((0, 0)).order)
        self.assertIsNone(Row((0, 5), modulus=5).order)
        self.assertEqual(Row((0, 5, 6), modulus=5).order, 2)
        self.assertEqual(Row((3,)).order, 0)
        self.assertEqual(Row((0,) * 24 + (Ratio(1, 7),)).order, 24)

    def test_bounds(self):
        self.assertEqual(Row((1,)).degree, 0)
        self.assertEqual(Row((1,) * 25).degree, 24)
        self.assertEqual(Row((SIXTY, -SIXTY)).whole(), (SIXTY, -SIXTY))
        self.assertEqual(Row((1,), modulus=10000).modulus, 10000)
        self.assertEqual(Row((3,), modulus=2).entries, (1,))
        self.assertEqual(Row((long_ratio(), 1)).at(0), long_ratio())

    def test_errors(self):
        wrong = [(), (1,) * 26, [0, 1], {0: 1}, (0, True), (0, None), ("1",), ((0, 1),), (1, LONG)]
        wrong += [(0, 1, value) for value in no_ratios() + package_objects()]
        wrong += no_tuples() + package_objects()
        later = [(errors.InvalidRow, ((0, Ratio(2)), 5)), (errors.InvalidRow, ((Ratio(1, 2),), 2))]
        self.check_errors(
            lambda entries, modulus: Row(entries, modulus=modulus), ((0, 1), 5),
            [bad(errors.InvalidRow, wrong), bad(errors.InvalidModulus, no_moduli())], later)

    def test_plain(self):
        for modulus in MODULI:
            for degree in (1, 2, 24):
                row = Row.plain(degree, modulus=modulus)
                self.assertIs(type(row), Row)
                self.assertEqual(row, Row((0, 1) + (0,) * (degree - 1), modulus=modulus))
        self.assertEqual(Row.plain(3).modulus, 0)
        self.check_errors(
            lambda degree, modulus: Row.plain(degree, modulus=modulus), (24, 5),
            [bad(errors.InvalidCount, no_counts(1, 24)), bad(errors.InvalidModulus, no_moduli())])

    def test_never_changes(self):
        entries = (0, 1, Ratio(1, 2))
        row = Row(entries)
        for name in ("entries", "degree", "modulus", "order", "is_whole"):
            with self.assertRaises(AttributeError):
                setattr(row, name, 7)
        for call in (row.plus, row.minus, row.times, row.put_in):
            call(row)
        self.assertEqual(row, Row(entries))
        self.assertIsNot(iter(row), iter(row))

    def test_at_and_whole(self):
        row = Row((5, Ratio(1, 2)))
        self.assertEqual((row.at(0), row.at(1)), (Ratio(5), Ratio(1, 2)))
        self.assertEqual(Row((7, 3), modulus=4).at(0), 3)
        for one in (row, Row((1, 2), modulus=4)):
            for value in no_counts(0, 1):
                self.count_refused(value, one.at, value)
        self.refused(errors.InvalidOperation, row.whole)
        self.assertEqual(Row((Ratio(6, 3), -1)).whole(), (2, -1))
        self.assertEqual([type(one) for one in Row((2, -1)).whole()], [int, int])


class TestReckoning(Checks):
    def test_sums_and_products(self):
        for modulus in MODULI:
            for one, other in itertools.product(sample(modulus), repeat=2):
                degree = min(one.degree, other.degree)
                left, right = of_row(one).cut(degree), of_row(other).cut(degree)
                self.assertEqual(of_row(one.plus(other)), left + right)
                self.assertEqual(of_row(one.minus(other)), left - right)
                self.assertEqual(of_row(one.times(other)), left * right)

    def test_to_the_greatest_degree(self):
        for modulus in (0, 9):
            one, other = some_row(1, 24, modulus), some_row(2, 24, modulus)
            self.assertEqual(of_row(one.times(other)), of_row(one) * of_row(other))
            curve = some_row(3, 24, modulus, (0, 1))
            self.assertEqual(curve.put_in(curve.turned_back()), Row.plain(24, modulus=modulus))
            self.assertEqual(curve.turned_back().put_in(curve), Row.plain(24, modulus=modulus))

    def test_errors_of_two(self):
        for row in (Row((0, 1, 2)), Row((0, 1), modulus=5), Row((0,))):
            for call in (row.plus, row.minus, row.times, row.put_in):
                for value in others_than(Row):
                    self.refused(errors.InvalidRow, call, value)
                for modulus in MODULI:
                    if modulus != row.modulus:
                        for other in (Row((0, 1), modulus=modulus), Row((1,), modulus=modulus)):
                            self.refused(errors.InvalidOperation, call, other)

    def test_scaled(self):
        for modulus in MODULI:
            for row in sample(modulus):
                for number in (0, 1, -1, 7, SIXTY, -SIXTY):
                    self.assertEqual(of_row(row.scaled(number)), of_row(row).scaled(number))
        for number in (Ratio(1, 2), Ratio(-3, 7), Ratio(4), long_ratio()):
            for row in sample(0):
                self.assertEqual(of_row(row.scaled(number)), of_row(row).scaled(fraction(number)))
            self.refused(errors.InvalidOperation, Row((1, 2), modulus=5).scaled, number)
        for row in (Row((1, 2)), Row((1, 2), modulus=5)):
            for value in no_ratios() + package_objects():
                self.refused(errors.InvalidOperation, row.scaled, value)

    def test_raised(self):
        for modulus in MODULI:
            for row in sample(modulus):
                for many in (0, 1, 2, 3, 7):
                    self.assertEqual(of_row(row.raised(many)), of_row(row) ** many)
                self.assertEqual(row.raised(0).degree, row.degree)

    def test_raised_below_0(self):
        for modulus in MODULI:
            for unit in units(modulus):
                for degree in DEGREES:
                    row = some_row(1, degree, modulus, (unit,))
                    one = row.raised(0)
                    for many in (1, 2, 5):
                        self.assertEqual(row.raised(-many).times(row.raised(many)), one)
                    self.assertEqual(row.reciprocal(), row.raised(-1))
        row = Row((2, 1) + (0,) * 23)
        self.assertEqual(row.raised(-24).times(row.raised(24)), row.raised(0))

    def test_errors_of_raised(self):
        good = [Row((1, 2)), Row((0, 1)), Row((3,), modulus=4)]
        for row in good:
            for value in no_counts(-24, 24):
                self.count_refused(value, row.raised, value)
        none = [Row((0, 1)), Row((0,)), Row((0, 1), modulus=5), Row((5,), modulus=5)]
        none += [Row((2, 1), modulus=4), Row((15, 1), modulus=10000), Row((3,), modulus=6)]
        for row in none:
            self.refused(errors.InvalidOperation, row.raised, -1)
            self.refused(errors.InvalidOperation, row.raised, -24)
            self.refused(errors.InvalidOperation, row.reciprocal)

    def test_put_in(self):
        for modulus in MODULI:
            for row, curve in itertools.product(sample(modulus), curves(modulus)):
                degree = min(row.degree, curve.degree)
                wanted = of_row(row).cut(degree).of(of_row(curve).cut(degree))
                self.assertEqual(of_row(row.put_in(curve)), wanted)

    def test_put_in_no_curve(self):
        for row in (Row((0, 1, 2)), Row((1,)), Row((0,))):
            for other in (Row((1, 1)), Row((Ratio(1, 2),)), Row((long_ratio(), 0))):
                self.refused(errors.InvalidOperation, row.put_in, other)
        self.refused(errors.InvalidOperation, Row((0, 1), modulus=5).put_in, Row((6,), modulus=5))

    def test_turned_back(self):
        for modulus in MODULI:
            for unit in units(modulus):
                for degree in (1, 2, 3, 7):
                    curve = some_row(1, degree, modulus, (0, unit))
                    back, plain = curve.turned_back(), Row.plain(degree, modulus=modulus)
                    self.assertEqual(curve.put_in(back), plain)
                    self.assertEqual(back.put_in(curve), plain)
                    self.assertEqual(back.turned_back(), curve)

    def test_no_turning_back(self):
        none = [
            Row((0,)), Row((1,)), Row((1, 1)), Row((0, 0, 1)), Row((0, 2), modulus=4),
            Row((0,), modulus=5), Row((0, 5), modulus=5), Row((0, 10, 1), modulus=15),
            Row((1, 1), modulus=2),
        ]
        for row in none:
            self.refused(errors.InvalidOperation, row.turned_back)

    def test_derived_and_summed_up(self):
        for modulus in MODULI:
            for row in sample(modulus):
                if row.degree == 0:
                    self.refused(errors.InvalidOperation, row.derived)
                    continue
                numbers = [at * fraction(entry) for at, entry in enumerate(row.entries)][1:]
                terms = {(at,): number for at, number in enumerate(numbers)}
                wanted = Poly(1, row.degree - 1, terms, modulus)
                self.assertEqual(of_row(row.derived()), wanted)
                if modulus != 0:
                    self.refused(errors.InvalidOperation, row.summed_up)
        for row in sample(0):
            self.assertEqual(row.summed_up().derived(), row)
            self.assertEqual(row.summed_up().at(0), Ratio(0))
            self.assertEqual(row.summed_up().degree, row.degree + 1)
        self.assertEqual(Row((1,) * 24).summed_up().at(24), Ratio(1, 24))
        self.refused(errors.InvalidOperation, Row((1,) * 25).summed_up)
        self.refused(errors.InvalidOperation, Row((1,), modulus=7).summed_up)

    def test_cut_and_spread(self):
        for modulus in MODULI:
            for row in sample(modulus):
                for degree in range(row.degree + 1):
                    self.assertEqual(of_row(row.cut(degree)), of_row(row).cut(degree))
                for times in (1, 2, 3, 24):
                    wanted = of_row(row).like({(a * times,): n for (a,), n in of_row(row).terms.items()})
                    self.assertEqual(of_row(row.spread(times)), wanted)
                for value in no_counts(0, row.degree)[::5] + [row.degree + 1, -1]:
                    self.count_refused(value, row.cut, value)
                for value in no_counts(1, 24)[::5] + [0, 25]:
                    self.count_refused(value, row.spread, value)
        self.assertEqual(Row((1, Ratio(1, 2))).cut(0), Row((1,)))
        for value in no_counts(0, 1):
            self.count_refused(value, Row((1, 2)).cut, value)
        for value in no_counts(1, 24):
            self.count_refused(value, Row((1, 2)).spread, value)


class TestLed(Checks):
    def test_ratios(self):
        for modulus in MODULI[1:]:
            for row in sample(0):
                bottoms = [entry.bottom for entry in row.entries]
                if any(math.gcd(bottom, modulus) != 1 for bottom in bottoms):
                    self.refused(errors.InvalidOperation, row.led, modulus)
                    continue
                told = [entry.top * pow(entry.bottom, -1, modulus) % modulus for entry in row]
                self.assertEqual(row.led(modulus).entries, tuple(told))
                self.assertEqual(row.led(modulus).modulus, modulus)

    def test_residues(self):
        row = Row((0, 7, 11, 5), modulus=12)
        for modulus in (2, 3, 4, 6, 12):
            told = tuple(number % modulus for number in row.entries)
            self.assertEqual(row.led(modulus).entries, told)
        for modulus in (5, 7, 8, 24, 36, 10000):
            self.refused(errors.InvalidOperation, row.led, modulus)

    def test_products_are_led(self):
        """2.4 and 0.8: reckoning, then leading, is leading, then reckoning."""
        for modulus in (7, 11, 9997):
            for one, other in itertools.product(sample(0)[:8], curves(0)[:8]):
                if math.gcd(one.common_bottom * other.common_bottom, modulus) != 1:
                    continue
                for name in ("plus", "minus", "times", "put_in"):
                    whole = getattr(one, name)(other).led(modulus)
                    self.assertEqual(whole, getattr(one.led(modulus), name)(other.led(modulus)))
        one, other = some_row(1, 5, 36), some_row(2, 5, 36)
        self.assertEqual(one.times(other).led(4), one.led(4).times(other.led(4)))

    def test_errors(self):
        for row in (Row((0, 1)), Row((0, Ratio(1, 2))), Row((1,), modulus=4)):
            for value in no_moduli() + [0]:
                self.refused(errors.InvalidModulus, row.led, value)
        for modulus in (2, 4, 6, 10000):
            self.refused(errors.InvalidOperation, Row((0, Ratio(1, 2))).led, modulus)
        self.assertEqual(Row((0, Ratio(1, 2))).led(3).entries, (0, 2))


class TestExpAndLog(Checks):
    def test_by_sums(self):
        for curve in curves(0):
            base, total = of_row(curve), of_row(curve).one()
            for many in range(1, curve.degree + 1):
                total = total + (base ** many).scaled(Fraction(1, math.factorial(many)))
            self.assertEqual(of_row(exp_of_row(curve)), total)
            total = base.like({})
            for many in range(1, curve.degree + 1):
                total = total + (base ** many).scaled(Fraction((-1) ** (many + 1), many))
            above = curve.plus(Row((1,) + (0,) * curve.degree))
            self.assertEqual(of_row(log_of_row(above)), total)

    def test_they_undo_each_other(self):
        for curve in curves(0) + [some_row(1, 24, 0, (0,))]:
            above = curve.plus(curve.raised(0))
            self.assertEqual(log_of_row(exp_of_row(curve)), curve)
            self.assertEqual(exp_of_row(log_of_row(above)), above)

    def test_sums_go_to_products(self):
        for one, other in itertools.product(curves(0), repeat=2):
            both = exp_of_row(one).times(exp_of_row(other))
            self.assertEqual(exp_of_row(one.plus(other)), both)
            self.assertEqual(log_of_row(both), one.plus(other))

    def test_errors(self):
        for call, good in ((exp_of_row, Row((0, 1))), (log_of_row, Row((1, 1)))):
            later = [Row((2, 1)), Row((-1,)), Row((Ratio(1, 2), 1)), Row((0, 1), modulus=5)]
            later += [Row((1, 1), modulus=5), Row((0,), modulus=2), Row((1,), modulus=10000)]
            later += [Row((1, 0))] if call is exp_of_row else [Row((0, 1))]
            then = [(errors.InvalidOperation, (row,)) for row in later]
            self.check_errors(call, (good,), [bad(errors.InvalidRow, others_than(Row))], then)


class TestPowerEntry(Checks):
    def test_two_ways(self):
        """2.2: the formula, and the power of what is back."""
        for unit in (1, -2, Ratio(2, 3)):
            for degree in (1, 2, 5, 8):
                row = some_row(1, degree, 0, (0, unit))
                back = row.turned_back()
                for many in (1, 2, 3, 4, 9, 24):
                    for index in range(1, degree + 1):
                        told = power_entry(row, many, index)
                        self.assertIs(type(told), Ratio)
                        self.assertEqual(told, back.raised(many).at(index))
                        self.assertEqual(told, self.by_formula(row, many, index))
        row = some_row(1, 24, 0, (0, 1))
        self.assertEqual(power_entry(row, 3, 24), row.turned_back().raised(3).at(24))

    def by_formula(self, row, many, index):
        if many > index:
            return Ratio(0)
        base = Row(row.entries[1:])
        return base.raised(-index).at(index - many).times(Ratio(many, index))

    def test_errors(self):
        row = Row((0, 1, 2, 3))
        later = [Row((0, 1, 2, 3), modulus=5), Row((0, 0, 1, 0)), Row((1, 1, 1, 1))]
        then = [(errors.InvalidOperation, (row, 2, 3)) for row in later]
        wrong = [
            bad(errors.InvalidRow, others_than(Row)), bad(errors.InvalidCount, no_counts(1, 24)),
            bad(errors.InvalidCount, no_counts(1, 3)),
        ]
        self.check_errors(power_entry, (row, 2, 3), wrong, then)
        self.count_refused(1, power_entry, Row((0,)), 1, 1)
        self.count_refused(25, power_entry, Row((0,)), 25, 1)


class TestEqualAndTexts(Checks):
    def test_equal(self):
        row = Row((0, Ratio(2, 4), 3))
        self.assertIs(row == Row((0, Ratio(1, 2), Ratio(3))), True)
        self.assertIs(row != Row((0, Ratio(1, 2), Ratio(3))), False)
        self.assertIs(Row((6, -1), modulus=5) == Row((1, 4), modulus=5), True)
        self.assertIs(Row((long_ratio(),)) == Row((long_ratio(),)), True)
        unlike = [
            row, Row((0, Ratio(1, 2))), Row((0, Ratio(1, 2), 3, 0)), Row((0, Ratio(1, 2), 4)),
            Row((0, 1)), Row((0, 1), modulus=5), Row((0, 1), modulus=7), Row((0, 1, 0)), Row((0,)),
        ]
        for one, other in itertools.permutations(unlike, 2):
            self.assertIs(one == other, False)
            self.assertIs(one != other, True)

    def test_every_value(self):
        for row in (Row((0, 1)), Row((1,)), Row((0, 1), modulus=5)):
            for value in no_objects() + others_than(Row) + [row.entries, list(row)]:
                self.assertIs(row == value, False)
                self.assertIs(row != value, True)
                self.assertIs(value == row, False)
            self.assertIn(row.at(0), row)
            self.assertNotIn("a", row)
            self.assertNotIn(row, row)

    def test_texts(self):
        told = {
            "0 to 0": Row((0,)), "0 to 2": Row((0, 0, 0)), "3 to 0": Row((3,)), "-3 to 1": Row((-3, 0)),
            "1 to 1": Row((1, 0)), "-1 to 1": Row((-1, 0)), "x to 1": Row((0, 1)),
            "-x to 1": Row((0, -1)), "x^2 to 2": Row((0, 0, 1)), "-x^2 to 2": Row((0, 0, -1)),
            "1 + x + x^2 to 2": Row((1, 1, 1)), "-1 - x - x^2 to 2": Row((-1, -1, -1)),
            "1/2 - 1/2*x + 2*x^2 to 3": Row((Ratio(1, 2), Ratio(-1, 2), 2, 0)),
            "-1/2*x^2 - 10*x^12 to 12": Row((0, 0, Ratio(-1, 2)) + (0,) * 9 + (-10,)),
            "x - 1/2*x^2 to 4": Row((0, 1, Ratio(-1, 2), 0, 0)),
            "1 + 3*x^2 to 4 modulo 5": Row((1, 0, 3, 0, 0), modulus=5),
            "0 to 1 modulo 2": Row((2, 4), modulus=2), "4 to 0 modulo 5": Row((-1,), modulus=5),
            "11*x + x^24 to 24": Row((0, 11) + (0,) * 22 + (1,)),
        }
        for text, row in told.items():
            self.assertEqual(str(row), text)


class TestNotTrue(Checks):
    """2.4: what is not true."""

    def test_back_of_a_whole_row(self):
        self.assertIs(Row((0, 2, 1)).turned_back().is_whole, False)
        self.assertIs(Row((0, -1, 1)).turned_back().is_whole, True)

    def test_row_of_a_product(self):
        row, one, other = Row((0, 1, 1, 0)), Row((0, 1, 0, 0)), Row((0, 2, 1, 0))
        self.assertNotEqual(row.put_in(one.times(other)), row.put_in(one).times(row.put_in(other)))

    def test_led_by_all_primes(self):
        one, other = Row((0, 1, 0)), Row((0, 1, 2))
        self.assertEqual(one.led(2), other.led(2))
        self.assertNotEqual(one, other)

    def test_double_rows_are_no_rows(self):
        self.refused(errors.InvalidRow, exp_of_row, Double(2, {(1, 0): 1}))
        self.assertIs(Row((0, 1)) == Double(1, {(1, 0): 1}), False)


class TestLong(Checks):
    def test_what_the_package_made(self):
        row = Row((0, SIXTY, SIXTY)).times(Row((SIXTY, 1, 1)))
        self.assertEqual(row.whole()[1], SIXTY ** 2)
        self.assertEqual(of_row(Row(row.entries)), of_row(row))
        self.assertEqual(fraction(row.plus(row).at(1)), 2 * SIXTY ** 2)
        self.refused(errors.InvalidRow, Row, row.whole())
        for value in long_integers():
            self.refused(errors.InvalidOperation, row.scaled, value)
        self.assertEqual(rows.Row((1, 2)).scaled(long_ratio()).at(0), long_ratio())

    def test_letter(self):
        self.assertEqual(of_row(Row.plain(4)), letter(0, 1, 4))


if __name__ == "__main__":
    unittest.main()
