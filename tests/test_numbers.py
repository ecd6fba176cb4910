"""Promises 1.4 and 1.5: plain numbers, and what 0.1 to 0.7 and 0.11 say of them."""

import inspect
import math
import unittest
from fractions import Fraction

from lawseries import errors
from lawseries.base import numbers
from lawseries.base.numbers import (
    binomial, common_divisor, divisors, is_integer, is_name, is_prime, moebius, partitions_of,
    prime_powers, step_divisor, valuation,
)
from lawseries.base.ratios import Ratio
from tests.support import (
    LONG, SIXTY, Checks, long_integers, long_ratio, no_integers, no_ratios, other_kinds,
    some_ratios, some_strings, some_tuples,
)

BILLION = 10 ** 9
SIGNATURES = {
    "is_integer": ["value"], "is_name": ["value"], "is_prime": ["value"],
    "common_divisor": ["numbers"], "divisors": ["number"], "prime_powers": ["number"],
    "moebius": ["number"], "valuation": ["prime", "number"], "binomial": ["top", "low"],
    "step_divisor": ["number"], "partitions_of": ["number"],
}


def primes_below(limit):
    sieve = [True] * limit
    for number in range(2, limit):
        if sieve[number]:
            yield number
            sieve[number * number::number] = [False] * len(sieve[number * number::number])


class TestInterface(Checks):
    def test_constants(self):
        found = (numbers.MAX_NAME, numbers.MAX_FACTORED, numbers.MAX_CHOSEN)
        self.assertEqual(found, (8, 1000000000, 1000))

    def test_functions(self):
        for name, parameters in SIGNATURES.items():
            call = getattr(numbers, name)
            self.assertEqual(call.__module__, "lawseries.base.numbers")
            self.assertEqual(list(inspect.signature(call).parameters), parameters)


class TestJudging(Checks):
    def check(self, call, value, wanted):
        with self.subTest(call=call.__name__, value=repr(value)[:60]):
            self.assertIs(call(value), wanted)

    def test_integers(self):
        for value in (0, 1, -1, 7, -7, BILLION + 1, SIXTY, -SIXTY, SIXTY - 1):
            self.check(is_integer, value, True)
        for value in no_integers():
            self.check(is_integer, value, False)

    def test_names(self):
        for value in ("a", "z", "az", "abcdefgh", "law", "zzzzzzzz"):
            self.check(is_name, value, True)
        wrong = ["", "abcdefghi", "Ab", "aB", "A", "a1", "1", "_", "a_b", "a b", " a", "a ", "a\n",
                 "a-b", "`", "{", "@", "[", "\u00e4", "\u00df", "\u0430", "a" * 4000]
        for value in wrong:
            self.check(is_name, value, False)
        for value in other_kinds() + some_tuples() + some_ratios() + long_integers() + [0, 1, 97]:
            self.check(is_name, value, False)

    def test_primes_up_to_3000(self):
        found = set(primes_below(3000))
        for value in range(-100, 3000):
            self.assertIs(is_prime(value), value in found)

    def test_large_primes(self):
        for value in (7919, 104729, 15485863, 31607, 31607 * 31607, 999999937):
            wanted = all(value % factor for factor in range(2, math.isqrt(value) + 1))
            self.check(is_prime, value, wanted)
        self.check(is_prime, 999999937, True)
        self.check(is_prime, 31607 * 31607, False)
        self.check(is_prime, 31607 * 31627, False)

    def test_no_prime_above_the_limit(self):
        for value in (BILLION, BILLION + 7, BILLION + 9, 2 ** 31 - 1, 2 ** 61 - 1, SIXTY):
            self.check(is_prime, value, False)

    def test_no_prime_of_another_kind(self):
        for value in no_integers() + [0, 1, -1, -2, -3, -7]:
            self.check(is_prime, value, False)


class TestCommonDivisor(Checks):
    def test_results(self):
        wanted = {
            (): 0, (0,): 0, (0, 0): 0, (7,): 7, (-7,): 7, (0, -7): 7, (12, -18, 0): 6,
            (-12, -18): 6, (4, 9): 1, (1, 0): 1, (SIXTY, -SIXTY): SIXTY, (10, 15, 6): 1,
        }
        for values, divisor in wanted.items():
            self.assertEqual(common_divisor(values), divisor)

    def test_against_the_definition(self):
        for one in range(-12, 13):
            for other in range(-12, 13):
                common = [k for k in range(1, 13) if one % k == 0 and other % k == 0]
                wanted = max(common) if one or other else 0
                self.assertEqual(common_divisor((one, other, 0)), wanted)

    def test_no_tuples(self):
        for value in other_kinds() + some_strings() + some_ratios() + long_integers() + [0, 5]:
            with self.subTest(value=repr(value)[:60]):
                self.refused(errors.InvalidOperation, common_divisor, value)

    def test_tuples_with_a_wrong_member(self):
        for value in no_integers():
            with self.subTest(value=repr(value)[:60]):
                self.refused(errors.InvalidOperation, common_divisor, (value,))
                self.refused(errors.InvalidOperation, common_divisor, (4, 6, value))
                self.refused(errors.InvalidOperation, common_divisor, (value, 1, value))


class TestFactors(Checks):
    def test_divisors(self):
        for number in list(range(1, 400)) + [1000, 1024, 5040, 9973]:
            wanted = tuple(k for k in range(1, number + 1) if number % k == 0)
            self.assertEqual(divisors(number), wanted)

    def test_prime_powers(self):
        primes = list(primes_below(400))
        for number in range(1, 400):
            found = prime_powers(number)
            self.assertEqual(list(found), [p for p in primes if number % p == 0])
            self.assertEqual(math.prod(p ** e for p, e in found.items()), number)

    def test_large_ones(self):
        self.assertEqual(prime_powers(BILLION), {2: 9, 5: 9})
        self.assertEqual(len(divisors(BILLION)), 100)
        self.assertEqual(divisors(BILLION)[-1], BILLION)
        self.assertEqual(prime_powers(999999937), {999999937: 1})
        self.assertEqual(divisors(999999937), (1, 999999937))
        self.assertEqual(prime_powers(31607 * 31607), {31607: 2})
        self.assertEqual(prime_powers(2 * 499999993), {2: 1, 499999993: 1})
        self.assertEqual(prime_powers(223092870), dict.fromkeys(primes_below(24), 1))
        self.assertEqual(moebius(999999937), -1)
        self.assertEqual(moebius(BILLION), 0)
        self.assertEqual(moebius(223092870), -1)

    def test_order_of_the_keys(self):
        self.assertEqual(list(prime_powers(7 * 2 * 997 * 3)), [2, 3, 7, 997])
        self.assertEqual(list(prime_powers(97 * 97 * 89)), [89, 97])

    def test_results_share_nothing(self):
        prime_powers(12)[2] = 7
        self.assertEqual(prime_powers(12), {2: 2, 3: 1})

    def test_sign_numbers(self):
        wanted = [1, -1, -1, 0, -1, 1, -1, 0, 0, 1, -1, 0, -1, 1, 1, 0, -1, 0, -1, 0, 1, 1, -1, 0]
        self.assertEqual([moebius(number) for number in range(1, 25)], wanted)
        self.assertEqual((moebius(30), moebius(210)), (-1, 1))

    def test_sums_of_sign_numbers(self):
        for number in range(1, 300):
            total = sum(moebius(divisor) for divisor in divisors(number))
            self.assertEqual(total, 1 if number == 1 else 0)

    def test_wrong_values(self):
        for call in (divisors, prime_powers, moebius):
            for value in no_integers() + [0, -1, -12, -BILLION, -SIXTY]:
                with self.subTest(call=call.__name__, value=repr(value)[:60]):
                    self.count_refused(value, call, value)

    def test_too_many(self):
        for call in (divisors, prime_powers, moebius):
            for value in (BILLION + 1, 2 * BILLION, SIXTY):
                error = self.refused(errors.TooMany, call, value)
                self.assertIs(type(error.limit), int)
                self.assertEqual(error.limit, 1000000000)


class TestValuation(Checks):
    def test_integers_and_ratios(self):
        for prime in (2, 3, 5):
            for exponent in range(-6, 7):
                for top, bottom in ((1, 1), (-1, 1), (7, 11), (-77, 13)):
                    number = Fraction(prime) ** exponent * Fraction(top, bottom)
                    ratio = Ratio(number.numerator, number.denominator)
                    self.assertEqual(valuation(prime, ratio), exponent)
                    if number.denominator == 1:
                        self.assertEqual(valuation(prime, number.numerator), exponent)

    def test_some(self):
        self.assertEqual([valuation(2, Ratio(3, 8)), valuation(3, -18), valuation(2, 1)], [-3, 2, 0])
        self.assertEqual(valuation(997, 997 * 997 * 5), 2)
        self.assertEqual(valuation(991, Ratio(1, 991)), -1)
        self.assertEqual(valuation(2, 2 ** 199), 199)
        self.assertEqual(valuation(5, -SIXTY), 0)

    def test_long_ratios(self):
        ratio = Ratio(3 ** 120)
        ratio = ratio.times(ratio).times(ratio)
        self.assertEqual(valuation(3, ratio), 360)
        self.assertEqual(valuation(3, Ratio(1).over(ratio)), -360)
        self.assertEqual(valuation(2, long_ratio()), 1 - 118)

    def test_each_prime_to_997(self):
        for prime in primes_below(998):
            self.assertEqual(valuation(prime, -prime), 1)

    def test_wrong_primes(self):
        wrong = [0, 1, -1, -2, -3, 4, 9, 91, 995, 996, 998, 999, 1009, 1013, 999999937, BILLION]
        for value in no_integers() + wrong:
            with self.subTest(value=repr(value)[:60]):
                self.refused(errors.InvalidPrime, valuation, value, 12)

    def test_wrong_numbers(self):
        for value in no_ratios():
            with self.subTest(value=repr(value)[:60]):
                self.refused(errors.InvalidRatio, valuation, 2, value)

    def test_zero(self):
        for value in (0, Ratio(0), Ratio(0, -3), long_ratio().minus(long_ratio())):
            self.refused(errors.InvalidOperation, valuation, 2, value)

    def test_the_prime_comes_first(self):
        for prime in (4, True, None, "2", (2,), Ratio(2), LONG, 1009):
            for value in no_ratios() + [0, Ratio(0)]:
                self.refused(errors.InvalidPrime, valuation, prime, value)


class TestBinomial(Checks):
    def test_triangle(self):
        row = [1]
        for top in range(40):
            for low in range(50):
                self.assertEqual(binomial(top, low), row[low] if low <= top else 0)
            row = [1] + [row[k] + row[k + 1] for k in range(top)] + [1]

    def test_large_ones(self):
        self.assertEqual(binomial(1000, 500), math.factorial(1000) // math.factorial(500) ** 2)
        self.assertEqual(binomial(1000, 1000), 1)
        self.assertEqual(binomial(999, 1000), 0)
        self.assertEqual(binomial(0, 1000), 0)
        self.assertEqual(binomial(0, 0), 1)

    def test_wrong_values(self):
        for value in no_integers() + [-1, -2, 1001, 1002, BILLION, -SIXTY]:
            with self.subTest(value=repr(value)[:60]):
                self.count_refused(value, binomial, value, 3)
                self.count_refused(value, binomial, 3, value)

    def test_the_first_wrong_one(self):
        for top in no_integers() + [-1, 1001]:
            for low in (-2, 1002, None, True, "3", [3], Ratio(3), LONG):
                self.count_refused(top, binomial, top, low)


class TestStepDivisor(Checks):
    def test_against_the_binomials(self):
        for number in list(range(2, 130)) + [243, 256, 343, 512, 625, 729, 841, 961, 997, 999, 1000]:
            among = [math.comb(number, low) for low in range(1, number)]
            self.assertEqual(step_divisor(number), math.gcd(*among))

    def test_by_its_own_binomials(self):
        for number in range(2, 60):
            among = tuple(binomial(number, low) for low in range(1, number))
            self.assertEqual(step_divisor(number), common_divisor(among))

    def test_all_to_1000(self):
        wanted = dict.fromkeys(range(2, 1001), 1)
        for prime in primes_below(1001):
            power = prime
            while power <= 1000:
                wanted[power] = prime
                power *= prime
        self.assertEqual({number: step_divisor(number) for number in range(2, 1001)}, wanted)

    def test_wrong_values(self):
        for value in no_integers() + [1, 0, -1, -2, 1001, 1002, BILLION + 1, SIXTY]:
            with self.subTest(value=repr(value)[:60]):
                self.count_refused(value, step_divisor, value)


class TestPartitions(Checks):
    def test_against_pentagonal_numbers(self):
        found = [1]
        for number in range(1, 201):
            total, k = 0, 1
            while k * (3 * k - 1) // 2 <= number:
                for place in (k * (3 * k - 1) // 2, k * (3 * k + 1) // 2):
                    if place <= number:
                        total += (-1) ** (k + 1) * found[number - place]
                k += 1
            found.append(total)
        self.assertEqual([partitions_of(number) for number in range(201)], found)

    def test_some(self):
        self.assertEqual([partitions_of(number) for number in range(8)], [1, 1, 2, 3, 5, 7, 11, 15])
        wanted = {0: 1, 1: 1, 10: 42, 200: 3972999029388}
        self.assertEqual({number: partitions_of(number) for number in wanted}, wanted)

    def test_one_beyond(self):
        for value in (-1, 201):
            self.count_refused(value, partitions_of, value)

    def test_wrong_values(self):
        for value in no_integers() + [-1, -2, 201, 202, BILLION, SIXTY]:
            with self.subTest(value=repr(value)[:60]):
                self.count_refused(value, partitions_of, value)


if __name__ == "__main__":
    unittest.main()
