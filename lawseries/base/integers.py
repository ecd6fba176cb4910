"""Integers of any length: powers, inverses, common bottoms, multipliers."""

from math import gcd, lcm

from lawseries.base.numbers import MAX_PRIME
from lawseries.base.ratios import Ratio


def rest_of(number, modulus):
    """What a number leaves; the number itself for the modulus 0."""
    return number if modulus == 0 else number % modulus


def reduced(numbers, modulus):
    """The list of what some numbers leave; for the modulus 0 of the numbers themselves."""
    if modulus == 0:
        return list(numbers)
    return [number % modulus for number in numbers]


def powers_to(number, many):
    """The list of the powers 0 to many of a number."""
    found = [1]
    for _ in range(many):
        found.append(found[-1] * number)
    return found


def power_of(number, many):
    """The power of an integer with an exponent of at least 0."""
    return powers_to(number, many)[many]


def ratio_power(ratio, many):
    """The power of a ratio with an exponent of at least 0."""
    found = Ratio(1)
    for _ in range(many):
        found = found.times(ratio)
    return found


def multipliers(one, other):
    """For two integers of at least 0 their greatest divisor d, and (s, t) with s one + t other = d."""
    high, low = (one, 1, 0), (other, 0, 1)
    while low[0] != 0:
        times = high[0] // low[0]
        high, low = low, tuple([first - times * second for first, second in zip(high, low)])
    return high[0], high[1:]


def inverse(number, modulus):
    """The residue that makes 1 with a number that has no common divisor with the modulus."""
    return multipliers(number % modulus, modulus)[1][0] % modulus


def weights_of(numbers):
    """Integers that, each times its number of at least 0, add up to the greatest common divisor."""
    divisor, found = 0, []
    for number in numbers:
        divisor, (keep, add) = multipliers(divisor, number)
        found = [weight * keep for weight in found] + [add]
    return found


def over_one_bottom(ratios):
    """The tops of some ratios over their least common bottom, and this bottom."""
    bottom = 1
    for ratio in ratios:
        bottom = lcm(bottom, ratio.bottom)
    return [ratio.top * (bottom // ratio.bottom) for ratio in ratios], bottom


def shared_divisor(numbers, bottom):
    """The greatest integer that divides a bottom and all numbers."""
    divisor = bottom
    for number in numbers:
        divisor = gcd(divisor, number)
        if divisor == 1:
            break
    return divisor


def least_prime_of(numbers):
    """The least prime to MAX_PRIME that divides one of some integers, or None."""
    # The least divisor above 1 is always a prime, so no test for primes is needed.
    for divisor in range(2, MAX_PRIME + 1):
        if any([number % divisor == 0 for number in numbers]):
            return divisor
    return None
