"""Plain numbers: primes, divisors, valuations, binomials and partitions."""

from math import comb, gcd, isqrt

from lawseries.base.ratios import is_short_integer, ratio_of
from lawseries.errors import InvalidCount, InvalidOperation, InvalidPrime, TooMany

MAX_NAME = 8
MAX_FACTORED = 10 ** 9
MAX_CHOSEN = 1000

# The greatest prime number that is taken wherever a prime is passed.
MAX_PRIME = 997

_MAX_PARTITIONED = 200


def is_integer(value):
    """Whether the value is an integer of at most sixty digits."""
    return is_short_integer(value)


def is_name(value):
    """Whether the value is a string of one to eight letters a to z."""
    if not isinstance(value, str) or len(value) > MAX_NAME:
        return False
    return value.isascii() and value.isalpha() and value.islower()


def is_prime(value):
    """Whether the value is a prime number of at most 10 ** 9."""
    if not is_integer(value) or value < 2 or value > MAX_FACTORED:
        return False
    return _least_factor(value, 2) == value


def check_prime(prime):
    """Refuses what is no prime number to 997."""
    if not is_prime(prime) or prime > MAX_PRIME:
        raise InvalidPrime("a prime number to 997 is expected")


def check_count(value, low, high):
    """Refuses what is no integer from low to high."""
    if not is_integer(value) or value < low or value > high:
        raise InvalidCount(value)


def common_divisor(numbers):
    """The greatest integer that divides all integers of a tuple, 0 if there is no greatest one."""
    if not isinstance(numbers, tuple) or not all([is_integer(number) for number in numbers]):
        raise InvalidOperation("a tuple of integers is expected")
    divisor = 0
    for number in numbers:
        divisor = gcd(divisor, number)
    return divisor


def divisors(number):
    """The ascending tuple of all divisors."""
    found = [1]
    for prime, exponent in prime_powers(number).items():
        powers = [1]
        for _ in range(exponent):
            powers.append(powers[-1] * prime)
        found = [divisor * power for divisor in found for power in powers]
    return tuple(sorted(found))


def prime_powers(number):
    """The dict from the primes that divide an integer to how often each one does."""
    _check_factored(number)
    found = {}
    rest, factor = number, 2
    while rest > 1:
        factor = _least_factor(rest, factor)
        found[factor] = _times_divided(factor, rest)
        while rest % factor == 0:
            rest = rest // factor
    return found


def moebius(number):
    """The sign number: 0 if a square of a prime divides, otherwise by the number of the primes."""
    exponents = list(prime_powers(number).values())
    if any([exponent > 1 for exponent in exponents]):
        return 0
    return 1 if len(exponents) % 2 == 0 else -1


def valuation(prime, number):
    """The exponent of a prime in the top of a ratio or an integer, less that in its bottom."""
    check_prime(prime)
    ratio = ratio_of(number)
    if ratio.top == 0:
        raise InvalidOperation("0 has no valuation")
    return _times_divided(prime, ratio.top) - _times_divided(prime, ratio.bottom)


def binomial(top, low):
    """The number of the ways to choose some of some things."""
    check_count(top, 0, MAX_CHOSEN)
    check_count(low, 0, MAX_CHOSEN)
    return comb(top, low)


def step_divisor(number):
    """The prime of which an integer from 2 to 1000 is a power, or 1."""
    check_count(number, 2, MAX_CHOSEN)
    primes = list(prime_powers(number))
    return primes[0] if len(primes) == 1 else 1


def partitions_of(number):
    """The number of the ways to write an integer as a sum of integers of at least 1."""
    check_count(number, 0, _MAX_PARTITIONED)
    ways = [1] + [0] * number
    for part in range(1, number + 1):
        for total in range(part, number + 1):
            ways[total] = ways[total] + ways[total - part]
    return ways[number]


def _check_factored(number):
    if not is_integer(number) or number < 1:
        raise InvalidCount(number)
    if number > MAX_FACTORED:
        raise TooMany(MAX_FACTORED)


def _least_factor(number, start):
    """The least factor above 1 of a number that has none below the start, which is at least 2."""
    if start == 2 and number % 2 == 0:
        return 2
    for factor in range(start | 1, isqrt(number) + 1, 2):
        if number % factor == 0:
            return factor
    return number


def _times_divided(prime, number):
    times, rest = 0, number
    while rest % prime == 0:
        rest = rest // prime
        times += 1
    return times
