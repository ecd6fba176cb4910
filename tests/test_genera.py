"""Promises 15.1 to 15.8 and 0.20: genera, and what 0.1 to 0.11 say of them."""

import inspect
import itertools
import math
import unittest
from fractions import Fraction

from lawseries import errors
from lawseries.base.numbers import partitions_of, step_divisor
from lawseries.base.ratios import Ratio
from lawseries.curve.curves import broken_prime
from lawseries.double.doubles import row_product
from lawseries.genus import genera
from lawseries.genus.genera import (
    characteristic_row, end_number, genus_fault, law_of_projective, product_table,
    projective_numbers, sequence_of, surface_numbers, surface_table, value_at,
)
from lawseries.law.laws import Law
from lawseries.log.logs import differential, exp_of, law_of_log, log_fault, log_of
from lawseries.part.parts import type_of
from lawseries.row.rows import Row
from lawseries.step.climbs import steps_by_log
from lawseries.step.steps import law_of_steps
from tests.reference import Poly, fraction, letter, some_laws, some_log
from tests.support import (
    LONG, SIXTY, Checks, bad, long_ratio, no_counts, no_integers, no_laws, no_objects, no_ratios,
    no_tuples, other_kinds, package_objects, some_strings, some_tuples,
)

MODULI = (2, 5, 9973, 10000)
SIGNS, TODD = Law.quadric(6, 0, 1), Law.multiplicative(6, -1)


def laws():
    """Laws with the modulus 0, whole ones and others."""
    found = some_laws(0) + [Law.additive(12), Law.multiplicative(12, -1), Law.quadric(9, 2, -3)]
    found += [law_of_steps(steps) for steps in ((1, 0, -1, 2), (0, 0, 3), tuple(range(-5, 6)), (SIXTY, -1))]
    logs = [Row((0, 1, 0, Ratio(1, 9))), Row((0, 1, 0, 0, Ratio(1, 4))), Row((0, 1, Ratio(1, 2), Ratio(1, 2)))]
    logs += [Row((0, 1, 1, 2, 3, 0, Ratio(1, 6))), Row((0, 1, 0, 0, 0, 0, 0, 0, 0, Ratio(1, 9))), some_log(2, 8)]
    logs += [Row((0, 1, Ratio(1, 2), Ratio(1, 3), Ratio(2, 4))), Row((0, 1, Ratio(1, 1009), 0))]
    return found + [law_of_log(log) for log in logs]


def slow_partitions(number):
    found = {tuple(sorted(told, reverse=True)) for many in range(1, number + 1)
             for told in itertools.product(range(1, number + 1), repeat=many) if sum(told) == number}
    return sorted(found)


TABLES = {n: slow_partitions(n) for n in range(1, 7)}


def some_tables():
    found = [surface_table(i, j) for i in range(1, 7) for j in range(1, 8 - i)]
    found += [product_table(told) for told in dimensions()]
    found += [{one: k * k - 3 * k for k, one in enumerate(TABLES[n])} for n in TABLES]
    return found + [{one: SIXTY if k % 2 else 0 for k, one in enumerate(TABLES[n])} for n in (1, 6)]


def dimensions():
    return [told for many in range(1, 7) for told in itertools.product(range(1, 7), repeat=many)
            if sum(told) <= 6]


def other_moduli(*rest):
    return [(errors.InvalidOperation, (Law.additive(7, modulus=m), *rest)) for m in MODULI]


class TestInterface(Checks):
    def test_interface(self):
        self.assertEqual(genera.MAX_GENUS, 6)
        told = {
            projective_numbers: "(given)", law_of_projective: "(numbers)",
            surface_numbers: "(given)", genus_fault: "(given)", characteristic_row: "(given)",
            sequence_of: "(given, degree)", value_at: "(given, table)",
            product_table: "(dimensions)", surface_table: "(one, other)", end_number: "(table)",
        }
        for call, signature in told.items():
            self.assertEqual(call.__module__, "lawseries.genus.genera")
            self.assertEqual(str(inspect.signature(call)), signature)


class TestNumbers(Checks):
    def test_projective_numbers(self):
        """15.1: by the log, by the differential, and back."""
        for given in laws():
            told, log = projective_numbers(given), log_of(given)
            self.assertEqual((type(told), len(told), told[0]), (tuple, given.degree, Ratio(1)))
            self.assertEqual(told, differential(given).entries)
            for n, number in enumerate(told):
                self.assertEqual(number, log.at(n + 1).times(n + 1))
            self.assertEqual(law_of_projective(told[1:]), given)

    def test_laws_of_numbers(self):
        for numbers in ((0,), (1, 2, Ratio(1, 2)), (SIXTY, -SIXTY), (long_ratio(), 1), tuple(range(11))):
            given = law_of_projective(numbers)
            self.assertEqual(given.degree, len(numbers) + 1)
            wanted = tuple(Ratio(0).plus(number) for number in numbers)
            self.assertEqual(projective_numbers(given), (Ratio(1), *wanted))

    def test_surface_numbers(self):
        """15.2: the dict, its keys, and the entries by their definition."""
        for given in laws():
            told, last = surface_numbers(given), given.degree
            keys = [(i, j) for i in range(last + 1) for j in range(i, last + 1) if 1 <= i + j <= last]
            self.assertEqual(list(told), keys)
            w = [fraction(entry) for entry in differential(given).entries] + [0]
            f = {place: fraction(entry) for place, entry in given.double.entries.items()}
            for i, j in keys[::3]:
                wanted = sum(w[i - a] * w[j - b] * number for (a, b), number in f.items() if a <= i and b <= j)
                self.assertEqual(fraction(told[i, j]), wanted)
                swapped = sum(w[j - a] * w[i - b] * number for (a, b), number in f.items() if a <= j and b <= i)
                self.assertEqual(swapped, wanted)
            for j in range(1, last + 1):
                self.assertEqual(told[0, j], projective_numbers(given)[j - 1])

    def test_whole(self):
        """15.2 and 0.20: whole exactly if all numbers are integers; and what the fault is."""
        seen = set()
        for given in laws():
            broken = [("P", n) for n, number in enumerate(projective_numbers(given)) if number.bottom != 1]
            surfaces = [(i + j, i, j) for (i, j), number in surface_numbers(given).items() if number.bottom != 1]
            if surfaces:
                broken.append(("H", *min(surfaces)[1:]))
            fault = genus_fault(given)
            self.assertEqual(fault, broken[0] if broken else None)
            self.assertIs(fault is None, given.is_whole)
            seen.add(fault and fault[0])
        self.assertEqual(seen, {None, "P", "H"})

    def test_whole_by_all_roads(self):
        """0.12 to 0.14 and 0.20: by entries, steps, types, picked curves and genera."""
        primes = [p for p in range(2, 998) if all(p % d for d in range(2, p))]
        seen = set()
        for given in laws():
            log = log_of(given)
            told = [
                given.is_whole, log_fault(log) is None, steps_by_log(log.entries)[0] is not None,
                broken_prime(given) is None, genus_fault(given) is None,
            ]
            # A prime above 997 is not asked for.
            if given.double.common_bottom % 1009:
                told.append(all(type_of(log, p) is not None for p in primes))
            self.assertEqual(len(set(told)), 1)
            seen.update(told)
        self.assertEqual(seen, {True, False})

    def test_ones(self):
        """15.3."""
        for degree in (2, 5, 6, 12):
            given = Law.multiplicative(degree, -1)
            self.assertEqual(set(map(str, projective_numbers(given))), {"1"})
            self.assertEqual(set(map(str, surface_numbers(given).values())), {"1"})
        for a, b in itertools.product((-2, 0, 1, 3), repeat=2):
            told = [fraction(number) for number in projective_numbers(Law.quadric(10, a, b))]
            self.assertEqual(told[:2], [1, a])
            for n in range(2, 10):
                self.assertEqual(told[n], a * told[n - 1] + b * told[n - 2])

    def test_errors(self):
        for call in (projective_numbers, surface_numbers, genus_fault, characteristic_row):
            self.check_errors(call, (Law.additive(7),), [no_laws()], other_moduli())
        wrong = [(), (1,) * 12, (1,) * 13, [1, 2], {1: 1}, (1, LONG), ("1",), (True,), (1, None)]
        wrong += [(1, value) for value in no_ratios() + package_objects()]
        wrong = bad(errors.InvalidGenus, wrong + no_tuples() + package_objects())
        self.check_errors(law_of_projective, ((Ratio(1, 2),) * 11,), [wrong])

    def test_not_true(self):
        """15.8."""
        given = law_of_projective((0, 0, 1))
        self.assertEqual(genus_fault(given), ("H", 2, 2))
        self.assertTrue(all(number.bottom == 1 for number in projective_numbers(given)))
        self.assertFalse(given.is_whole)
        one, other = product_table((1, 1)), {(1, 1): 0, (2,): 0}
        self.assertEqual((end_number(one), end_number(other)), (0, 0))
        self.assertNotEqual(value_at(SIGNS, one), value_at(TODD, one))
        self.assertNotEqual(value_at(TODD, one), value_at(TODD, other))


class TestSequences(Checks):
    def test_characteristic_rows(self):
        """15.4: the row x / e(x), and P(n) by its powers."""
        for given in laws():
            row = characteristic_row(given)
            self.assertEqual(row.degree, given.degree - 1)
            back = Row(exp_of(given).entries[1:])
            self.assertEqual(row.times(back), Row((1,) + (0,) * row.degree))
            for n, number in enumerate(projective_numbers(given)):
                self.assertEqual(row.raised(n + 1).at(n), number)

    def test_by_symmetric_polynomials(self):
        """15.4: the part of degree n of Q(x1) * .. * Q(xn), by its definition."""
        for given in (TODD, SIGNS, law_of_steps((1, 0, -1, 2)), law_of_log(some_log(2, 6))):
            q = [fraction(entry) for entry in characteristic_row(given).entries]
            for n in range(1, min(4, given.degree - 1) + 1):
                xs = [letter(at, n, n) for at in range(n)]
                wanted = xs[0].one()
                for x in xs:
                    factor = Poly(n, n, {})
                    for k in range(n + 1):
                        factor = factor + (x ** k).scaled(q[k])
                    wanted = wanted * factor
                wanted = wanted.like({at: one for at, one in wanted.terms.items() if sum(at) == n})
                symmetric = [None] + [self.symmetric(xs, k) for k in range(1, n + 1)]
                found = wanted.like({})
                for partition, number in sequence_of(given, n).items():
                    term = xs[0].one().scaled(fraction(number))
                    for part in partition:
                        term = term * symmetric[part]
                    found = found + term
                self.assertEqual(found, wanted)

    def symmetric(self, xs, k):
        found = xs[0].like({})
        for some in itertools.combinations(xs, k):
            term = xs[0].one()
            for x in some:
                term = term * x
            found = found + term
        return found

    def test_keys(self):
        for given in laws():
            for n in range(1, min(6, given.degree - 1) + 1):
                told = sequence_of(given, n)
                self.assertEqual(list(told), TABLES[n])
                self.assertEqual(len(told), partitions_of(n))
                self.assertTrue(all(type(number) is Ratio for number in told.values()))
        self.assertEqual(set(map(str, sequence_of(Law.additive(7), 6).values())), {"0"})

    def test_known_ones(self):
        told = {one: str(number) for one, number in sequence_of(Law.multiplicative(6, -1), 4).items()}
        self.assertEqual(told, {(4,): "-1/720", (3, 1): "1/720", (2, 2): "1/240", (2, 1, 1): "1/180",
                                (1, 1, 1, 1): "-1/720"})

    def test_errors(self):
        for degree, most in ((12, 6), (7, 6), (6, 5), (2, 1)):
            counts = bad(errors.InvalidCount, no_counts(1, most) + [7, 24])
            then = other_moduli(most)
            self.check_errors(sequence_of, (Law.additive(degree), most), [no_laws()[:40], counts])
            for error, told in then:
                self.refused(error, sequence_of, *told)
                self.refused(error, sequence_of, told[0], 99)


class TestTables(Checks):
    def test_product_tables(self):
        """15.5, by polynomials, and the values of laws."""
        for told in dimensions():
            table, n = product_table(told), sum(told)
            self.assertEqual(list(table), TABLES[n])
            self.assertTrue(all(type(number) is int for number in table.values()))
            if n < 5:
                self.check_product(told, table, n)
            for given in laws()[::3]:
                if n < given.degree:
                    wanted = Ratio(1)
                    for d in told:
                        wanted = wanted.times(projective_numbers(given)[d])
                    self.assertEqual(value_at(given, table), wanted)

    def check_product(self, told, table, n):
        """By classes that are not cut: with x ** (d + 1) = 0 nothing else comes to the last place."""
        many = len(told)
        xs = [letter(at, many, n) for at in range(many)]
        total = xs[0].one()
        for x, d in zip(xs, told):
            total = total * (xs[0].one() + x) ** (d + 1)
        self.check_table(total, xs[0].one(), table, told, n)

    def check_table(self, total, first, table, last, n):
        for partition, number in table.items():
            found = first
            for m in partition:
                found = found * total.like({at: one for at, one in total.terms.items() if sum(at) == m})
            self.assertEqual(found.terms.get(tuple(last), 0), number)

    def test_surface_tables(self):
        """15.6, by polynomials, and the values of laws."""
        for i, j in itertools.product(range(1, 7), repeat=2):
            if i + j > 7:
                continue
            table, n = surface_table(i, j), i + j - 1
            self.assertEqual(list(table), TABLES[n])
            self.assertEqual(table, surface_table(j, i))
            x, y = letter(0, 2, i + j), letter(1, 2, i + j)
            total = (x.one() + x) ** (i + 1) * (x.one() + y) ** (j + 1)
            below = x.like({})
            for k in range(i + j + 1):
                below = below + ((x + y) ** k).scaled((-1) ** k)
            self.check_table(total * below, x + y, table, (i, j), n)
            for given in laws():
                if n < given.degree:
                    told = surface_numbers(given)[min(i, j), max(i, j)]
                    self.assertEqual(value_at(given, table), told)

    def test_values(self):
        for given, table in itertools.product(laws()[::2], some_tables()):
            n = sum(list(table)[0])
            if n >= given.degree:
                self.refused(errors.InvalidOperation, value_at, given, table)
                continue
            wanted = sum(fraction(number) * table[one] for one, number in sequence_of(given, n).items())
            self.assertEqual(fraction(value_at(given, table)), wanted)
            self.assertIs(type(value_at(given, table)), Ratio)
            backwards = dict(reversed(table.items()))
            self.assertEqual(value_at(given, backwards), value_at(given, table))
            self.assertEqual(end_number(backwards), end_number(table))

    def test_end_numbers(self):
        """15.7."""
        for told in dimensions():
            wanted = told[0] + 1 if len(told) == 1 else 0
            self.assertEqual(end_number(product_table(told)), wanted)
        for i, j in itertools.product(range(2, 6), repeat=2):
            if i + j <= 7:
                self.assertEqual(end_number(surface_table(i, j)), -math.comb(i + j, i))
        for n in range(1, 7):
            found = [end_number(product_table((n,)))]
            found += [end_number(surface_table(i, n + 1 - i)) for i in range(2, n)]
            self.assertEqual(math.gcd(*found), step_divisor(n + 1))

    def test_end_numbers_by_letters(self):
        for n in range(1, 5):
            xs = [letter(at, n, n) for at in range(n)]
            wanted = xs[0].like({})
            for x in xs:
                wanted = wanted + x ** n
            found = xs[0].like({})
            for one in TABLES[n]:
                term = xs[0].one().scaled(end_number({other: int(one == other) for other in TABLES[n]}))
                for part in one:
                    term = term * TestSequences.symmetric(self, xs, part)
                found = found + term
            self.assertEqual(found, wanted)

    def no_tables(self):
        table = product_table((2, 1))
        wrong = [{}, {(): 0}, {(1,): 1, (2,): 2}, {(1, 1): 1}, {(2,): 1}, {(1, 1): 1, (2,): 2, (3,): 3}]
        wrong += [{one: 0 for one in slow_partitions(7)}, {(1, 2): 1, (3,): 1, (1, 1, 1): 1}, {(1,): Ratio(1)}]
        wrong += [{1: 1}, {"(1,)": 1}, {(True,): 1}, {(1, True): 1, (2,): 1}, {None: 1}, {(1,): True}, {(1,): LONG}]
        wrong += [{(1,): value} for value in no_integers() + package_objects()]
        wrong += [{one: number for one, number in table.items() if one != left} for left in table]
        wrong += [table | {(4,): 1}, table | {(3, 0): 1}, table | {(1, 2): 1}, {**table, (3,): None}]
        wrong += [list(table.items()), tuple(table.items()), TABLES[3], {(0,): 1}, {(-1,): 1}]
        wrong += [value for value in other_kinds() if value != {(1,): 1}]
        return bad(errors.InvalidGenus, wrong + some_strings() + some_tuples() + package_objects() + [0, 1, LONG])

    def test_errors_of_tables(self):
        wrong = self.no_tables()
        for n in (1, 3, 6):
            good = {one: 1 for one in TABLES[n]}
            self.check_errors(end_number, (good,), [wrong])
            then = [(errors.InvalidOperation, (Law.additive(n if n > 1 else 2), {
                one: 1 for one in TABLES[max(n, 2)]}))]
            self.check_errors(value_at, (Law.additive(n + 1), good), [no_laws()[:30], wrong], then)
        for error, told in other_moduli(None):
            # An unlike modulus is told behind the law, ahead of the table.
            self.refused(error, value_at, *told)
            self.refused(error, value_at, told[0], product_table((1,)))

    def test_errors_of_product_table(self):
        wrong = [(), (0,), (-1, 2), (7,), (6, 1), (1,) * 7, (3, 4), (1, 2, 0), (2, 2, 2, 1), [1, 2], {1: 1}]
        wrong += [(1, LONG), (SIXTY,), (True,), (1, True), (1, None), ("1",), (Ratio(1),), ((1,),)]
        wrong += [(1, value) for value in no_integers() + package_objects()]
        wrong = bad(errors.InvalidGenus, wrong + no_tuples() + package_objects())
        self.check_errors(product_table, ((1,) * 6,), [wrong])

    def test_errors_of_surface_table(self):
        counts = bad(errors.InvalidCount, no_counts(1, 6))
        then = [(errors.InvalidOperation, pair) for pair in ((2, 6), (6, 2), (4, 4), (6, 6), (3, 5))]
        self.check_errors(surface_table, (1, 6), [counts, counts], then)
        self.check_errors(surface_table, (3, 4), [counts, counts])

    def test_new_dicts(self):
        for call, told in ((product_table, ((2, 1),)), (surface_table, (2, 2)), (surface_numbers, (TODD,)),
                           (sequence_of, (TODD, 3))):
            found = call(*told)
            wanted = dict(found)
            found.clear()
            self.assertEqual(call(*told), wanted)

    def test_rows_of_products(self):
        w = differential(TODD)
        self.assertEqual(row_product(w, w).at(2, 2), Ratio(1))
        self.assertEqual(fraction(value_at(TODD, {(1,): 2})), Fraction(1))
        for value in no_objects()[:5]:
            self.refused(errors.InvalidGenus, end_number, (value, value))


if __name__ == "__main__":
    unittest.main()
