"""Promises 11.1 to 11.7 and 0.17: ghosts, and what 0.1 to 0.11 say of them."""

import inspect
import itertools
import random
import unittest

from lawseries import errors
from lawseries.base.numbers import divisors, moebius, partitions_of, prime_powers
from lawseries.base.ratios import Ratio
from lawseries.ghost import ghosts
from lawseries.ghost.ghosts import (
    Witt, are_ghosts, artin_row, counts_of, ghost_fault, ghost_row,
)
from lawseries.row.rows import Row, exp_of_row
from tests.support import (
    LONG, SIXTY, Checks, bad, long_integers, no_counts, no_integers, no_moduli, no_objects, no_primes,
    no_rows, no_tuples, others_than, package_objects,
)


def some_integers(seed, many):
    source = random.Random(f"ghosts {seed} {many}")
    return tuple(source.randrange(-5, 6) for _ in range(many))


def some_coordinates():
    found = [(0,), (1,), (-1,), (SIXTY,), (1, 0, 0, 0), (2, -1, -2, -4), (0, 0, 5), (1,) * 24, (-1,) * 12]
    found += [some_integers(seed, many) for seed, many in ((1, 2), (2, 5), (3, 12), (4, 23), (5, 24))]
    return found + [(SIXTY, -SIXTY, 7), (-SIXTY,) * 24, (0,) * 24]


def some_witts():
    return [Witt(told) for told in some_coordinates()]


def some_tuples():
    """Tuples of integers, ghosts and others, some of them near to ghosts."""
    found = [some_integers(seed, many) for seed in range(40) for many in (1, 2, 3, 4, 6)]
    for witt in some_witts():
        if max(map(abs, witt.ghosts)) < LONG:
            found.append(witt.ghosts)
            for at in range(witt.degree):
                for step in (1, at + 1):
                    changed = list(witt.ghosts)
                    changed[at] += step
                    found.append(tuple(changed))
    return [told for told in found if max(map(abs, told)) < LONG]


def no_ghosts():
    wrong = [(), (1,) * 25, [1], [1, 3], {1: 1}, (1, LONG), (-LONG,), ("1",), (True,), (1, True), (1, None)]
    wrong += [(1, value) for value in no_integers() + package_objects()]
    return bad(errors.InvalidGhosts, wrong + no_tuples() + package_objects())


def row_by_definition(numbers):
    """The exp of the curve with the entries a(n) / n."""
    return exp_of_row(Row((0,) + tuple(Ratio(a, n) for n, a in enumerate(numbers, start=1))))


class TestInterface(Checks):
    def test_interface(self):
        self.assertEqual(ghosts.MAX_GHOSTS, 24)
        told = {
            are_ghosts: "(value)", ghost_fault: "(numbers)", ghost_row: "(numbers)",
            counts_of: "(numbers)", artin_row: "(prime, degree)", Witt: "(coordinates)",
            Witt.single: "(number, degree)", Witt.of_ghosts: "(numbers)", Witt.of_row: "(row)",
            Witt.as_row: "(self)", Witt.plus: "(self, other)", Witt.minus: "(self, other)",
            Witt.times: "(self, other)", Witt.opposite: "(self)", Witt.moved: "(self, number)",
            Witt.taken: "(self, number)", Witt.cut: "(self, degree)", Witt.rests: "(self, modulus)",
        }
        for call, signature in told.items():
            self.assertEqual(call.__module__, "lawseries.ghost.ghosts")
            self.assertEqual(str(inspect.signature(call)), signature)
            if call.__name__ != call.__qualname__:
                self.assertIn(call.__name__, vars(Witt))
        for name in ("degree", "coordinates", "ghosts", "counts", "__eq__", "__len__", "__str__"):
            self.assertIn(name, vars(Witt))


class TestGhosts(Checks):
    def test_rows(self):
        """11.1."""
        for numbers in some_tuples() + [(0,) * 24, (SIXTY,) * 24, (-SIXTY, 5)]:
            row = ghost_row(numbers)
            self.assertEqual((row.degree, row.modulus, row.at(0)), (len(numbers), 0, Ratio(1)))
            self.assertEqual(row, row_by_definition(numbers))

    def test_three_tests(self):
        """11.1, 11.2 and 0.17: the row, divisors and prime powers tell the same."""
        seen = set()
        for numbers in some_tuples():
            whole = ghost_row(numbers).is_whole
            first = [n for n in range(1, len(numbers) + 1) if sum(
                moebius(n // d) * numbers[d - 1] for d in divisors(n)) % n]
            second = [n for n in range(1, len(numbers) + 1) if any(
                (numbers[n - 1] - numbers[n // p - 1]) % p ** e for p, e in prime_powers(n).items())]
            self.assertIs(are_ghosts(numbers), whole)
            self.assertEqual(ghost_fault(numbers), first[0] if first else None)
            self.assertEqual((not first, not second), (whole, whole))
            if first:
                self.assertTrue(are_ghosts(numbers[:first[0] - 1]) or first[0] == 1)
                self.assertFalse(are_ghosts(numbers[:first[0]]))
            seen.add(whole)
        self.assertEqual(seen, {True, False})

    def test_edges(self):
        self.assertIs(are_ghosts((5,)), True)
        self.assertIs(are_ghosts((1,) * 24), True)
        self.assertIs(are_ghosts((1,) * 23 + (2,)), False)
        self.assertEqual(ghost_fault((1,) * 23 + (2,)), 24)
        self.assertEqual(ghost_fault((SIXTY, SIXTY + 0)), None)
        self.assertEqual(ghost_fault((SIXTY, SIXTY - 1)), 2)

    def test_judging(self):
        for _, value in no_ghosts():
            self.assertIs(are_ghosts(value), False)
        for value in no_objects() + package_objects() + long_integers():
            odd = type(value) is int and abs(value) < LONG and value % 2 == 1
            self.assertIs(are_ghosts((1, value)), odd)

    def test_counts(self):
        """11.3, by the definition and by products."""
        for witt in some_witts():
            counts = witt.counts
            self.assertEqual((type(counts), len(counts)), (tuple, witt.degree))
            for n in range(1, witt.degree + 1):
                self.assertEqual(witt.ghosts[n - 1], sum(d * counts[d - 1] for d in divisors(n)))
            if max(map(abs, witt.ghosts)) < LONG:
                self.assertEqual(counts_of(witt.ghosts), counts)
        self.assertEqual(counts_of((1, 3, 4, 7, 6, 12)), (1,) * 6)

    def test_products(self):
        for witt in some_witts():
            row = Row((1,) + (0,) * witt.degree)
            if max(map(abs, witt.counts)) <= 24:
                for n, count in enumerate(witt.counts, start=1):
                    factor = [1] + [0] * witt.degree
                    factor[n] = -1
                    row = row.times(Row(tuple(factor)).raised(-count))
                self.assertEqual(witt.as_row(), row)
            row = Row((1,) + (0,) * witt.degree)
            for n, number in enumerate(witt.coordinates, start=1):
                factor = [1] + [0] * witt.degree
                factor[n] = -number
                row = row.times(Row(tuple(factor)).reciprocal())
            self.assertEqual(witt.as_row(), row)

    def test_all_counts(self):
        """11.3: each tuple of integers is that of the counts, and of the coordinates, of some ghosts."""
        for told in itertools.product((-2, 0, 1, 3), repeat=4):
            numbers = tuple(sum(d * told[d - 1] for d in divisors(n)) for n in range(1, 5))
            self.assertIs(are_ghosts(numbers), True)
            self.assertEqual(counts_of(numbers), told)
            numbers = tuple(sum(d * told[d - 1] ** (n // d) for d in divisors(n)) for n in range(1, 5))
            self.assertIs(are_ghosts(numbers), True)
            self.assertEqual(Witt.of_ghosts(numbers).coordinates, told)
            self.assertEqual(Witt(told).ghosts, numbers)

    def test_partitions(self):
        numbers = tuple(sum(divisors(n)) for n in range(1, 25))
        self.assertEqual(ghost_row(numbers).whole(), tuple(partitions_of(n) for n in range(25)))
        self.assertEqual(counts_of(numbers), (1,) * 24)

    def test_artin_rows(self):
        """11.6: no bottom that the prime divides."""
        for prime in (2, 3, 5, 7, 23, 29, 997):
            for degree in (1, 2, 4, 8, 9, 16, 23, 24):
                row = artin_row(prime, degree)
                curve = [Ratio(0)] * (degree + 1)
                for k in range(6):
                    if prime ** k <= degree:
                        curve[prime ** k] = Ratio(1, prime ** k)
                self.assertEqual(row, exp_of_row(Row(tuple(curve))))
                self.assertEqual(row.degree, degree)
                self.assertTrue(all(entry.bottom % prime for entry in row))

    def test_not_true(self):
        """11.7."""
        one = Witt((1, 0, 0, 0))
        self.assertNotEqual(one.plus(one).coordinates, (2, 0, 0, 0))
        row = artin_row(2, 4)
        self.assertTrue(all(entry.bottom % 2 for entry in row))
        self.assertIs(are_ghosts((1, 1, 0, 1)), False)
        self.assertEqual(ghost_row((1, 1, 0, 1)), row)

    def test_errors(self):
        for call in (ghost_fault, ghost_row):
            self.check_errors(call, ((SIXTY,) * 24,), [no_ghosts()])
        wrong = [(1, 2), (1, 1, 2), (1,) * 23 + (2,)]
        then = [(errors.InvalidOperation, (told,)) for told in wrong]
        for call in (counts_of, Witt.of_ghosts):
            self.check_errors(call, ((1,) * 24,), [no_ghosts()], then)
        counts = bad(errors.InvalidCount, no_counts(1, 24))
        self.check_errors(artin_row, (997, 24), [no_primes(), counts])


class TestWitt(Checks):
    def test_created(self):
        for told in some_coordinates():
            witt = Witt(told)
            self.assertEqual((witt.coordinates, witt.degree, len(witt)), (told, len(told), len(told)))
            wanted = tuple(sum(d * told[d - 1] ** (n // d) for d in divisors(n))
                           for n in range(1, len(told) + 1))
            self.assertEqual(witt.ghosts, wanted)
            self.assertEqual(str(witt), " ".join(["witt", *map(str, told)]))
        self.check_errors(Witt, ((SIXTY,) * 24,), [no_ghosts()])

    def test_from_one_another(self):
        """11.3: counts, coordinates, ghosts and rows tell one another."""
        for witt in some_witts():
            row = witt.as_row()
            self.assertEqual((row.degree, row.is_whole, row.at(0)), (witt.degree, True, Ratio(1)))
            self.assertEqual(Witt.of_row(row), witt)
            self.assertEqual(Witt.of_row(row).ghosts, witt.ghosts)
            if max(map(abs, witt.ghosts)) < LONG:
                self.assertEqual(Witt.of_ghosts(witt.ghosts), witt)
                self.assertEqual(ghost_row(witt.ghosts), row)
        for seed in range(30):
            row = Row((1,) + some_integers(seed, 1 + seed % 24))
            self.assertEqual(Witt.of_row(row).as_row(), row)

    def test_single(self):
        for number, degree in ((2, 4), (0, 1), (-SIXTY, 24), (1, 24)):
            self.assertEqual(Witt.single(number, degree), Witt((number,) + (0,) * (degree - 1)))
            self.assertEqual(Witt.single(number, degree).ghosts, tuple(number ** n for n in range(1, degree + 1)))
        counts = bad(errors.InvalidCount, no_counts(1, 24))
        numbers = bad(errors.InvalidCount, no_integers() + package_objects())
        self.check_errors(Witt.single, (SIXTY, 24), [numbers, counts])

    def test_of_row_errors(self):
        wrong = [Row((1,)), Row((0, 1)), Row((2, 1)), Row((-1, 1)), Row((1, Ratio(1, 2))), Row((1, 1), modulus=5)]
        wrong += [Row((1,), modulus=2), Row((Ratio(1, 2), 1)), Row((0,) * 25)]
        then = [(errors.InvalidOperation, (row,)) for row in wrong]
        self.check_errors(Witt.of_row, (Row((1,) * 25),), [no_rows()], then)
        self.assertEqual(Witt.of_row(Row((1, Ratio(4, 2)))).coordinates, (2,))

    def test_sums_and_products(self):
        """11.4: by the ghosts, to the lesser degree."""
        for one, other in itertools.product(some_witts(), repeat=2):
            pairs = list(zip(one.ghosts, other.ghosts))
            total, left, product = one.plus(other), one.minus(other), one.times(other)
            self.assertEqual(total.ghosts, tuple(a + b for a, b in pairs))
            self.assertEqual(left.ghosts, tuple(a - b for a, b in pairs))
            self.assertEqual(product.ghosts, tuple(a * b for a, b in pairs))
            for found in (total, left, product):
                self.check_made(found, min(one.degree, other.degree))
        for witt in some_witts():
            self.assertEqual(witt.opposite().ghosts, tuple(-a for a in witt.ghosts))
            self.check_made(witt.opposite(), witt.degree)

    def check_made(self, witt, degree):
        """The coordinates belong to the ghosts, though they may be long."""
        self.assertEqual((witt.degree, len(witt.coordinates), len(witt.ghosts)), (degree,) * 3)
        for n in range(1, degree + 1):
            told = sum(d * witt.coordinates[d - 1] ** (n // d) for d in divisors(n))
            self.assertEqual(told, witt.ghosts[n - 1])

    def test_rows_of_sums(self):
        for one, other in itertools.combinations(some_witts()[:14], 2):
            least = min(one.degree, other.degree)
            product = one.as_row().cut(least).times(other.as_row().cut(least))
            self.assertEqual(one.plus(other).as_row(), product)
            self.assertEqual(Witt.of_row(product), one.plus(other))

    def test_moved_and_taken(self):
        """11.4."""
        for witt, k in itertools.product(some_witts(), (1, 2, 3, 5, 12, 23, 24)):
            moved = witt.moved(k)
            wanted = tuple(k * witt.ghosts[n // k - 1] if n % k == 0 else 0
                           for n in range(1, witt.degree + 1))
            self.assertEqual(moved.ghosts, wanted)
            self.check_made(moved, witt.degree)
            if k <= witt.degree:
                taken = witt.taken(k)
                self.assertEqual(taken.ghosts, witt.ghosts[k - 1::k])
                self.check_made(taken, witt.degree // k)
                back = moved.taken(k)
                self.assertEqual(back.ghosts, tuple(k * a for a in witt.ghosts[:witt.degree // k]))
                total = witt.cut(back.degree)
                for _ in range(k - 1):
                    total = total.plus(witt)
                self.assertEqual(back, total.cut(back.degree))

    def test_cut(self):
        for witt in some_witts():
            for degree in range(1, witt.degree + 1):
                found = witt.cut(degree)
                self.assertEqual(found.coordinates, witt.coordinates[:degree])
                self.assertEqual(found.ghosts, witt.ghosts[:degree])

    def test_rests(self):
        """11.5."""
        for witt, modulus in itertools.product(some_witts(), (2, 3, 5, 6, 9973, 10000)):
            self.assertEqual(witt.rests(modulus), tuple(c % modulus for c in witt.coordinates))
        small = [witt for witt in some_witts() if SIXTY > max(map(abs, witt.coordinates))]
        for one, other in itertools.combinations(small, 2):
            for m in (2, 4, 5, 6):
                near = Witt(tuple((c + m * (n + 1)) for n, c in enumerate(one.coordinates)))
                far = Witt(tuple((c - m * 7) for c in other.coordinates))
                for name in ("plus", "minus", "times"):
                    told = getattr(one, name)(other).rests(m)
                    self.assertEqual(getattr(near, name)(far).rests(m), told)
        for witt, prime in itertools.product(some_witts(), (2, 3, 5, 7)):
            if prime <= witt.degree:
                powers = tuple(c ** prime % prime for c in witt.coordinates[:witt.degree // prime])
                self.assertEqual(witt.taken(prime).rests(prime), powers)

    def test_errors(self):
        counts = bad(errors.InvalidCount, no_counts(1, 24))
        four = Witt((1, 2, 3, 4))
        self.check_errors(four.moved, (24,), [counts])
        then = [(errors.InvalidOperation, (number,)) for number in (5, 24)]
        self.check_errors(four.taken, (4,), [counts], then)
        self.check_errors(four.cut, (4,), [bad(errors.InvalidCount, no_counts(1, 4))])
        moduli = bad(errors.InvalidModulus, no_moduli() + [0])
        self.check_errors(four.rests, (10000,), [moduli])
        wrong = bad(errors.InvalidGhosts, others_than(Witt) + [(1, 2, 3, 4), (1, 3, 4, 7)])
        for call in (four.plus, four.minus, four.times):
            self.check_errors(call, (Witt((1,)),), [wrong])

    def test_equal(self):
        for one, other in itertools.product(some_witts(), repeat=2):
            self.assertIs(one == other, one.coordinates == other.coordinates)
            self.assertIs(one != other, one.coordinates != other.coordinates)
        one = Witt((1, 0))
        for value in no_objects() + others_than(Witt) + [(1, 0), (1, 1), Witt((1,)), Witt((1, 0, 0))]:
            self.assertIs(one == value, False)
            self.assertIs(value != one, True)
        self.assertIs(Witt((1, 1)).moved(1) == Witt((1, 1)), True)

    def test_no_iteration(self):
        with self.assertRaises(TypeError):
            iter(Witt((1, 2)))

    def test_never_changes(self):
        witt = Witt((1, 2, 3, 4))
        before = (witt.coordinates, witt.ghosts, witt.counts, str(witt))
        for other in (witt.plus(witt), witt.times(witt), witt.opposite(), witt.moved(2), witt.taken(2)):
            self.assertIsNot(other, witt)
        self.assertEqual((witt.coordinates, witt.ghosts, witt.counts, str(witt)), before)


if __name__ == "__main__":
    unittest.main()
