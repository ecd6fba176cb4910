"""Reckoning with lists of integers: the multiples of 1, x, x ** 2 and so on.

For a modulus other than 0 the integers are residues. For the modulus 0 they stand over a common
bottom, which the functions leave to their callers: all reckoning is done with integers.
"""

from lawseries.base.integers import powers_to, reduced, rest_of


def list_product(one, other, modulus):
    """The product of two lists, as long as the shorter one."""
    length = min(len(one), len(other))
    backwards = other[:length][::-1]
    found = [
        sum([left * right for left, right in zip(one, backwards[length - 1 - place:])])
        for place in range(length)
    ]
    return reduced(found, modulus)


def list_powers(numbers, modulus):
    """The powers of a list that begins with 0, from 0 to the last one that can be other than 0."""
    last = len(numbers) - 1
    found = [[1] + [0] * last]
    for _ in range(last):
        found.append(list_product(found[-1], numbers, modulus))
    return found


def list_reciprocal(numbers, modulus):
    """1 divided by a list that begins with 1."""
    found = [1]
    for place in range(1, len(numbers)):
        told = sum([numbers[low] * found[place - low] for low in range(1, place + 1)])
        found.append(rest_of(-told, modulus))
    return found


def list_put(outer, inner, bottom, modulus):
    """A list of another one that begins with 0 and stands over a bottom.

    What is returned stands over the power of this bottom with the last index as its exponent.
    """
    length = min(len(outer), len(inner))
    found = [0] * length
    for number, power in zip(outer[:length][::-1], powers_to(bottom, length - 1)):
        found = list_product(found, inner, modulus)
        found[0] = number * power
    return reduced(found, modulus)


def list_back(numbers, modulus):
    """What is back of a list that begins with 0 and 1."""
    powers = list_powers(numbers, modulus)
    found = [0, 1]
    for place in range(2, len(numbers)):
        told = sum([found[low] * powers[low][place] for low in range(1, place)])
        found.append(rest_of(-told, modulus))
    return found
