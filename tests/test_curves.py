"""Promises 10.1 to 10.6 and 0.14: curves of laws, and what 0.1 to 0.11 say of them."""

import inspect
import itertools
import math
import unittest

from lawseries import errors
from lawseries.base.ratios import Ratio
from lawseries.curve import curves
from lawseries.curve.curves import (
    are_terms, broken_prime, curve_of_terms, curve_sum, picked, shifted, stretched, terms_of,
)
from lawseries.law.laws import Law
from lawseries.log.logs import curve_log, log_of, law_of_log
from lawseries.part.parts import part_log
from lawseries.row.rows import Row
from lawseries.step.steps import law_of_steps, lift_of, moved_by
from tests.reference import fraction, some_laws, some_log, some_row
from tests.support import (
    LONG, SIXTY, Checks, bad, long_ratio, no_counts, no_curves, no_integers, no_laws, no_objects,
    no_ratios, no_tuples, package_objects,
)

MODULI = (0, 2, 3, 4, 5, 6, 9, 10000)
PRIMES = (2, 3, 5, 7, 11)
FIVE = Law.multiplicative(6, 1, modulus=5)
ZERO = Row((0,))


def laws_of(modulus):
    """Laws with a modulus, one of the degree 12 among them."""
    found = some_laws(modulus)
    steps = (1, 0, 1, 1, 0, 1, 0, 0, 1, 1, 1)
    found.append(law_of_steps(steps, modulus=modulus))
    if modulus > 2:
        found.append(law_of_steps((2, 1, modulus - 1, 0, 2, 2), modulus=modulus))
    return found


def curves_of(modulus):
    """Curves of unlike degrees, 0 among them."""
    found = [Row((0,), modulus=modulus), Row((0, 0), modulus=modulus)]
    found += [Row.plain(degree, modulus=modulus) for degree in (1, 4, 24)]
    return found + [some_row(seed, 2 * seed + 1, modulus, (0,)) for seed in range(5)]


def pairs_of(modulus):
    return list(itertools.product(laws_of(modulus), curves_of(modulus)))


def together(given, curve):
    return min(given.degree, curve.degree)


class TestInterface(Checks):
    def test_interface(self):
        self.assertEqual((curves.MAX_CURVE, curves.MAX_SUMMED), (24, 12))
        told = {
            shifted: "(curve, number)", stretched: "(curve, number)",
            picked: "(given, curve, number)", curve_sum: "(given, curves)",
            terms_of: "(given, curve)", curve_of_terms: "(given, terms)",
            are_terms: "(given, curve, value)", broken_prime: "(given)",
        }
        for call, signature in told.items():
            self.assertEqual(call.__module__, "lawseries.curve.curves")
            self.assertEqual(str(inspect.signature(call)), signature)


class TestShifted(Checks):
    def test_shifted(self):
        for modulus in MODULI:
            for curve, number in itertools.product(curves_of(modulus), (1, 2, 3, 7, 23, 24)):
                wanted = [0] * (curve.degree + 1)
                wanted[::number] = curve.entries[:len(wanted[::number])]
                self.assertEqual(shifted(curve, number), Row(tuple(wanted), modulus=modulus))

    def test_stretched(self):
        for modulus in MODULI:
            numbers = [0, 1, -1, 2, 7, -SIXTY] + ([] if modulus else [Ratio(2, 3), Ratio(0), long_ratio()])
            for curve, number in itertools.product(curves_of(modulus), numbers):
                found = stretched(curve, number)
                self.assertEqual((found.degree, found.modulus), (curve.degree, modulus))
                for n, entry in enumerate(curve.entries):
                    told = fraction(entry) * fraction(number) ** n
                    self.assertEqual(fraction(found.at(n)), told % modulus if modulus else told)

    def test_errors_of_shifted(self):
        counts = bad(errors.InvalidCount, no_counts(1, 24))
        self.check_errors(shifted, (Row((0, 1, 2)), 24), [no_curves(), counts])
        self.check_errors(shifted, (Row((0,), modulus=5), 1), [no_curves(), counts])

    def test_errors_of_stretched(self):
        wrong = bad(errors.InvalidOperation, no_ratios() + package_objects())
        self.check_errors(stretched, (Row((0, 1, 2)), SIXTY), [no_curves(), wrong])
        wrong += bad(errors.InvalidOperation, [Ratio(1), Ratio(1, 2), long_ratio()])
        self.check_errors(stretched, (Row((0, 1, 2), modulus=5), -1), [no_curves(), wrong])


class TestPicked(Checks):
    def test_by_logs(self):
        """10.1, by its words."""
        for given, curve in pairs_of(0):
            least = together(given, curve)
            told = curve_log(log_of(given), curve)
            for number in range(1, least + 1):
                found = picked(given, curve, number)
                self.assertEqual(found.degree, least // number)
                b = curve_log(log_of(given), found)
                for k in range(1, found.degree + 1):
                    self.assertEqual(b.at(k), told.at(number * k).times(number))

    def test_by_lifts(self):
        """10.2: whatever whole law and whole curve are taken."""
        for modulus in MODULI[1:]:
            for given, curve in pairs_of(modulus):
                least = together(given, curve)
                lift = lift_of(given)
                lifts = [lift, moved_by(lift, modulus * 3)]
                raised = [Row(curve.entries), Row(tuple(
                    entry + (-1) ** n * 2 * modulus * min(n, 1) for n, entry in enumerate(curve.entries)))]
                for number in range(1, least + 1):
                    found = picked(given, curve, number)
                    self.assertEqual((found.degree, found.modulus), (least // number, modulus))
                    for one, other in itertools.product(lifts, raised):
                        whole = picked(one, other, number)
                        self.assertTrue(whole.is_whole)
                        self.assertEqual(whole.led(modulus), found)

    def test_norms(self):
        """For x + y + x y: 1 + F_2 c, at x ** 2, is the product of 1 + c(x) and 1 + c(-x)."""
        for curve in curves_of(0):
            if curve.degree < 2:
                continue
            given = Law.multiplicative(min(curve.degree, 12), 1)
            whole = Row((1,) + curve.entries[1:given.degree + 1])
            product = whole.times(stretched(whole.minus(Row((1,) + (0,) * whole.degree)), -1).plus(
                Row((1,) + (0,) * whole.degree)))
            found = picked(given, curve, 2)
            self.assertEqual(tuple(product.entries[2::2]), found.entries[1:])

    def test_sums(self):
        """10.3: all three lead sums to sums."""
        for modulus in MODULI:
            for given in laws_of(modulus):
                one, other = some_row(7, 5, modulus, (0,)), some_row(8, 7, modulus, (0, 1))
                total = given.sum_of(one, other)
                for n in range(1, total.degree + 1):
                    both = given.sum_of(picked(given, one, n), picked(given, other, n))
                    both = both.cut(min(both.degree, total.degree // n))
                    self.assertEqual(picked(given, total, n).cut(both.degree), both)
                    self.assertEqual(shifted(total, n), given.sum_of(shifted(one, n), shifted(other, n)))
                for a in (0, -1, 3) + (() if modulus else (Ratio(1, 2),)):
                    both = given.sum_of(stretched(one, a), stretched(other, a))
                    self.assertEqual(stretched(total, a), both)

    def test_relations(self):
        """10.3, as far as both sides are known."""
        for modulus in (0, 2, 4, 5, 6):
            some = [some_row(seed, degree, modulus, (0,)) for seed, degree in ((2, 7), (3, 4), (9, 12))]
            for given, curve in itertools.product(laws_of(modulus)[1::2], some):
                least = together(given, curve)
                for n in range(1, min(least, 6) + 1):
                    back = picked(given, shifted(curve, n), n)
                    fold = given.multiple(n).put_in(curve)
                    self.assertEqual(back, fold.cut(back.degree))
                    for a in (-1, 2) if modulus else (-1, Ratio(2, 3)):
                        self.check_stretched(given, curve, n, a)
                    for m in (1, 2, 3, 5):
                        self.check_two(given, curve, m, n)

    def check_two(self, given, curve, m, n):
        once = picked(given, curve, n)
        self.assertEqual(shifted(shifted(curve, n), m), Row(tuple(
            curve.at(k // (m * n)) if k % (m * n) == 0 else 0 for k in range(curve.degree + 1)
        ), modulus=curve.modulus))
        if once.degree >= m:
            self.assertEqual(picked(given, once, m), picked(given, curve, m * n))
        if math.gcd(m, n) == 1:
            self.assertEqual(picked(given, shifted(curve, m), n), shifted(once, m))

    def check_stretched(self, given, curve, n, a):
        power = a ** n if isinstance(a, int) else Ratio(a.top ** n, a.bottom ** n)
        left = picked(given, stretched(curve, a), n)
        self.assertEqual(left, stretched(picked(given, curve, n), power))
        self.assertEqual(stretched(shifted(curve, n), a), shifted(stretched(curve, power), n))

    def test_v_of_f(self):
        """10.3: modulo a prime p, V_p F_p c is the p-fold of c; 10.6: not modulo other numbers."""
        for prime in PRIMES:
            for given, curve in itertools.product(laws_of(prime), curves_of(prime)):
                if together(given, curve) >= prime:
                    fold = given.multiple(prime).put_in(curve)
                    self.assertEqual(self.shifted_pick(given, curve, prime), fold.entries)
        alike = []
        for modulus, prime in ((4, 2), (6, 2), (6, 3), (9, 3)):
            for given in laws_of(modulus):
                if given.degree >= prime:
                    told = self.shifted_pick(given, Row.plain(given.degree, modulus=modulus), prime)
                    alike.append(told == given.multiple(prime).entries)
        self.assertIn(False, alike)

    def shifted_pick(self, given, curve, n):
        """The entries of V_n F_n c, as far as they are known."""
        low = picked(given, curve, n)
        places = range(together(given, curve) + 1)
        return tuple(low.at(k // n) if k % n == 0 else 0 for k in places)

    def test_not_true(self):
        """10.6: products are not led to products."""
        given, curve = Law.multiplicative(6, 1), Row.plain(6)
        product = picked(given, curve.times(curve), 2)
        square = picked(given, curve, 2).times(picked(given, curve, 2))
        self.assertNotEqual(product, square)

    def test_errors(self):
        counts = bad(errors.InvalidCount, no_counts(1, 24))
        curve, five = Row((0, 2, 1, 3)), Row((0, 2, 1, 3), modulus=5)
        then = [(errors.InvalidOperation, told) for told in [
            (Law.additive(4), curve, 4), (Law.additive(2), curve, 3), (Law.additive(12), Row.plain(24), 13),
            (Law.additive(12), Row.plain(24), 24), (Law.additive(4), ZERO, 1), (FIVE, five, 4),
            (FIVE, Row((0,), modulus=5), 1), (FIVE, curve, 2), (Law.additive(4), five, 2),
            (FIVE, Row((0, 1), modulus=10), 1), (FIVE, curve, 24), (Law.additive(4), five, 1),
        ]]
        self.check_errors(picked, (Law.additive(4), curve, 3), [no_laws(), no_curves(), counts], then)
        self.check_errors(picked, (FIVE, five, 1), [no_laws(), no_curves(), counts], [])
        self.assertEqual(picked(Law.additive(12), Row.plain(24), 12).degree, 1)


class TestSums(Checks):
    def test_sums(self):
        for modulus in MODULI:
            for given in laws_of(modulus):
                found = curves_of(modulus)[2:]
                for many in (1, 2, 3, 12):
                    some = tuple((found * 2)[:many])
                    total = some[0].cut(min(some[0].degree, given.degree))
                    for curve in some[1:]:
                        total = given.sum_of(total, curve)
                    self.assertEqual(curve_sum(given, some), total)
                    self.assertEqual(curve_sum(given, some[::-1]), total)
                    least = min([given.degree] + [curve.degree for curve in some])
                    self.assertEqual((total.degree, total.modulus), (least, modulus))

    def test_degree_zero(self):
        given = Law.multiplicative(6, 1)
        self.assertEqual(curve_sum(given, (ZERO,)), ZERO)
        self.assertEqual(curve_sum(given, (Row.plain(5), ZERO, Row.plain(3))), ZERO)
        self.assertEqual(curve_sum(given, (Row.plain(9),)), Row.plain(6))

    def test_errors(self):
        curve, five = Row((0, 2, 1, 3)), Row((0, 2, 1, 3), modulus=5)
        wrong = [(), (curve,) * 13, [curve], {0: curve}, curve, (curve, (0, 1)), (Row((1, 1)),)]
        wrong += [(curve, value) for _, value in no_curves()] + [(five, Row((1,), modulus=5))]
        wrong = bad(errors.InvalidCurve, wrong + no_tuples() + package_objects())
        then = [(errors.InvalidOperation, told) for told in [
            (FIVE, (curve,)), (Law.additive(3), (curve, five)), (Law.additive(3), (five, curve)),
            (FIVE, (five, Row((0, 1), modulus=10))),
        ]]
        self.check_errors(curve_sum, (Law.additive(3), (curve,) * 12), [no_laws(), wrong], then)
        self.refused(errors.InvalidCurve, curve_sum, FIVE, (curve, Row((1,))))


class TestTerms(Checks):
    def test_both_ways(self):
        """10.5: the curve is the sum of the curves a(n) * x ** n, for just one tuple."""
        for modulus in MODULI:
            for given, curve in pairs_of(modulus):
                least = together(given, curve)
                terms = terms_of(given, curve)
                self.assertEqual((type(terms), len(terms)), (tuple, least))
                kind = int if modulus else Ratio
                self.assertTrue(all(type(term) is kind for term in terms))
                self.assertIs(are_terms(given, curve, terms), True)
                if least == 0:
                    self.assertEqual(terms, ())
                    continue
                if modulus:
                    self.assertTrue(all(0 <= term < modulus for term in terms))
                pieces = [Row((0,) * n + (term,) + (0,) * (least - n), modulus=modulus)
                          for n, term in enumerate(terms, start=1)]
                self.assertEqual(curve_sum(given, tuple(pieces)), curve.cut(least))
                self.assertEqual(curve_of_terms(given, terms), curve.cut(least))

    def test_back(self):
        for modulus in MODULI:
            for given, many in itertools.product(laws_of(modulus), (1, 2, 5, 11, 12)):
                terms = tuple(some_row(many, many, modulus).entries[1:])
                curve = curve_of_terms(given, terms)
                least = min(many, given.degree)
                self.assertEqual((curve.degree, curve.modulus), (least, modulus))
                self.assertEqual(terms_of(given, curve), terms[:least])

    def test_numbers_of_all_kinds(self):
        given = Law.multiplicative(4, 1)
        told = (1, Ratio(1), -SIXTY, long_ratio())
        self.assertEqual(curve_of_terms(given, told[:2]), Row((0, 1, 1)))
        self.assertEqual(terms_of(given, curve_of_terms(given, told)), tuple(
            term if isinstance(term, Ratio) else Ratio(term) for term in told))
        found = curve_of_terms(FIVE, (-1, 7, SIXTY))
        self.assertEqual(found, curve_of_terms(FIVE, (4, 2, SIXTY % 5)))
        self.assertEqual(terms_of(FIVE, found), (4, 2, SIXTY % 5))

    def test_whole(self):
        """10.5: for a whole law a curve is whole exactly if its terms are integers."""
        seen = set()
        for given in laws_of(0):
            if given.is_whole:
                for curve in curves_of(0)[1:]:
                    whole = curve.cut(together(given, curve)).is_whole
                    self.assertIs(all(term.bottom == 1 for term in terms_of(given, curve)), whole)
                    seen.add(whole)
        self.assertEqual(seen, {True, False})

    def test_plain_sums(self):
        for modulus in MODULI:
            for curve in curves_of(modulus)[1:]:
                terms = terms_of(Law.additive(12, modulus=modulus), curve)
                self.assertEqual(terms, curve.entries[1:13])

    def test_shifted_and_stretched(self):
        for modulus in (0, 2, 5, 6):
            for given, curve in pairs_of(modulus):
                terms, n = terms_of(given, curve), 2
                shift = terms_of(given, shifted(curve, n))
                for k in range(1, len(terms) + 1):
                    zero = 0 if modulus else Ratio(0)
                    self.assertEqual(shift[k - 1], terms[k // n - 1] if k % n == 0 else zero)
                stretch = terms_of(given, stretched(curve, -3))
                for k, (one, term) in enumerate(zip(stretch, terms), start=1):
                    power = (-3) ** k
                    self.assertEqual(one, term * power % modulus if modulus else term.times(power))

    def test_products(self):
        """The words behind the examples: 1 + c is the product of 1 + a(n) * x ** n."""
        given, curve = Law.multiplicative(12, 1), some_row(4, 12, 0, (0,))
        product = Row((1,) + (0,) * 12)
        for n, term in enumerate(terms_of(given, curve), start=1):
            product = product.times(Row((1,) + (0,) * (n - 1) + (term,) + (0,) * (12 - n)))
        self.assertEqual(product.entries[1:], curve.entries[1:])

    def test_judging(self):
        given, curve = Law.multiplicative(3, 1), Row((0, 1, 1, 0))
        self.assertEqual(terms_of(given, curve), (Ratio(1), Ratio(1), Ratio(-1)))
        none = [(1, 1, -1), [Ratio(1), Ratio(1), Ratio(-1)], (Ratio(1), Ratio(1)), (Ratio(1), Ratio(1), -1)]
        none += [(Ratio(1), Ratio(1), Ratio(1)), (Ratio(1), Ratio(1), Ratio(-1), Ratio(0)), (True, True, -1)]
        none += [(Ratio(1), Ratio(1), value) for value in no_objects() + package_objects()]
        for value in none + no_objects() + package_objects():
            self.assertIs(are_terms(given, curve, value), False)
        five = Row((0, 1, 1, 0), modulus=5)
        self.assertEqual(terms_of(FIVE, five), (1, 1, 4))
        self.assertIs(are_terms(FIVE, five, (1, 1, 4)), True)
        none = [(1, 1, -1), (1, 1, 9), (True, 1, 4), (1, True, 4), [1, 1, 4], (1, 1), (1, 1, 4, 0), (1, 1, 3)]
        none += [(Ratio(1), Ratio(1), Ratio(4)), (1, 1, "4"), (1, 1, None), (1, 1, LONG), (1, 1, False)]
        none += [(1, 1, value) for value in no_integers() + package_objects()]
        for value in none + no_objects() + package_objects():
            self.assertIs(are_terms(FIVE, five, value), False)
        zero = Row((0, 0, 0), modulus=5)
        self.assertEqual([are_terms(FIVE, zero, told) for told in ((0, 0), (False, 0))], [True, False])
        self.assertEqual([are_terms(given, ZERO, told) for told in ((), [], (0,), None)], [True] + [False] * 3)

    def test_errors_of_terms(self):
        curve, five = Row((0, 2, 1, 3)), Row((0, 2, 1, 3), modulus=5)
        then = [(errors.InvalidOperation, told) for told in [
            (FIVE, curve), (Law.additive(3), five), (FIVE, Row((0,), modulus=10))]]
        self.check_errors(terms_of, (FIVE, five), [no_laws(), no_curves()], then)
        then = [(error, told + ((),)) for error, told in then]
        self.check_errors(are_terms, (FIVE, five, ()), [no_laws(), no_curves(), []], then)

    def test_errors_of_curve_of_terms(self):
        wrong = [(), (1,) * 13, (1,) * 25, [1, 2], {1: 2}, (1, LONG), (-LONG, 1), (1, "2"), (True,), (1, None)]
        wrong += [(1, value) for value in no_ratios() + package_objects()]
        wrong += no_tuples() + package_objects()
        good = (1, Ratio(1, 2)) * 6
        self.check_errors(curve_of_terms, (Law.additive(3), good), [
            no_laws(), bad(errors.InvalidOperation, wrong)])
        wrong += [(1, Ratio(2)), (Ratio(1, 2),), (Ratio(1),)]
        self.check_errors(curve_of_terms, (FIVE, (SIXTY,) * 12), [
            no_laws(), bad(errors.InvalidOperation, wrong)])


class TestWholeLaws(Checks):
    def test_broken_prime(self):
        """10.4 and 0.14: whole exactly if all F_p x are."""
        seen = set()
        laws = laws_of(0) + [law_of_log(log) for log in broken_logs()]
        for given in laws:
            told = [p for p in PRIMES if p <= given.degree
                    and not picked(given, Row.plain(given.degree), p).is_whole]
            self.assertEqual(broken_prime(given), told[0] if told else None)
            self.assertIs(broken_prime(given) is None, given.is_whole)
            seen.add(broken_prime(given))
        self.assertLessEqual({None, 2, 3, 5}, seen)

    def test_whole_curves(self):
        """10.4 and 0.14: whole curves of a whole law are led to whole ones."""
        for given in laws_of(0):
            if given.is_whole:
                for curve in curves_of(0):
                    if curve.is_whole:
                        for n in range(1, together(given, curve) + 1):
                            self.assertTrue(picked(given, curve, n).is_whole)
                        for n in (1, 2, 24):
                            self.assertTrue(shifted(curve, n).is_whole)
                            self.assertTrue(stretched(curve, -n).is_whole)

    def test_logs_at_powers(self):
        """10.4: F_q x is 0 for all primes q but p exactly if the log has entries at powers of p alone."""
        logs = [log_of(given) for given in laws_of(0)] + broken_logs()
        logs += [part_log(log, p) for log in logs for p in (2, 3)]
        seen = set()
        for log, p in itertools.product(logs, (2, 3, 5)):
            given = law_of_log(log)
            zero = all(picked(given, Row.plain(log.degree), q).order is None
                       for q in PRIMES if q <= log.degree and q != p)
            self.assertIs(zero, part_log(log, p) == log)
            seen.add(zero)
        self.assertEqual(seen, {True, False})

    def test_errors(self):
        then = [(errors.InvalidOperation, (given,)) for given in (FIVE, Law.additive(2, modulus=10000))]
        self.check_errors(broken_prime, (Law.additive(2),), [no_laws()], then)


def broken_logs():
    """Logs that are whole at some primes, but not at all."""
    found = [Row((0, 1, 0, Ratio(1, 9))), Row((0, 1, 0, 0, Ratio(1, 4)))]
    found += [Row((0, 1, 0, 0, 0, Ratio(1, 25))), Row((0, 1, Ratio(1, 7), 0))]
    return found + [some_log(seed, degree) for seed, degree in ((1, 2), (4, 9), (6, 12))]


if __name__ == "__main__":
    unittest.main()
