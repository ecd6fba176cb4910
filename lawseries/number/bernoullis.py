"""Numbers B(n) of a log: x / e(x) is the sum of B(n) * x ** n / n!, e being back of the log."""

from math import factorial

from lawseries.base.checks import check_number, is_number
from lawseries.base.integers import power_of, powers_to
from lawseries.base.numbers import check_count, check_prime, is_prime
from lawseries.base.ratios import Ratio, ratio_of
from lawseries.errors import InvalidOperation, InvalidRow
from lawseries.law.laws import MAX_LAW
from lawseries.log.logs import check_log, is_log
from lawseries.row.rows import Row, made_row

_MAX_PLACE = 100


def is_of_integers(value):
    """Whether the value is a log whose derivative is whole."""
    return is_log(value) and value.derived().is_whole


def numbers_of(log):
    """The numbers of a log."""
    check_log(log)
    back = log.turned_back()
    row = made_row(back.tops[1:], back.common_bottom, 0).reciprocal()
    return tuple([entry.times(factorial(n)) for n, entry in enumerate(row.entries)])


def number_at(log, place):
    """The number of a log with an index."""
    check_log(log)
    check_count(place, 0, log.degree - 1)
    return numbers_of(log)[place]


def log_of_numbers(numbers):
    """The log with some numbers."""
    if not _are_numbers(numbers):
        raise InvalidRow("a tuple of 2 to 12 ratios and integers is expected, the first one 1")
    entries = [ratio_of(number).over(factorial(n)) for n, number in enumerate(numbers)]
    told = Row(tuple(entries)).reciprocal()
    return made_row((0,) + told.tops, told.common_bottom, 0).turned_back()


def bottom_bound(place):
    """What the bottom of the number with an index divides, for each log of integers."""
    check_count(place, 0, _MAX_PLACE)
    # For an odd place this is 2, the only prime that is odd when lessened by 1; for 0 it is 1.
    found = 1
    for number in range(2, place + 2):
        if place % (number - 1) == 0 and is_prime(number):
            found = found * number
    return found


def residue_at(log, prime, place):
    """What p * B(n) leaves modulo an odd prime p, n being the place, told by the log alone."""
    check_log(log)
    check_prime(prime)
    check_count(place, 1, log.degree - 1)
    if not is_of_integers(log) or prime == 2 or place % (prime - 1) != 0:
        raise InvalidOperation("a log of integers, and an odd prime less 1 that divides, expected")
    told = log.derived().whole()[prime - 1]
    return -power_of(told, place // (prime - 1)) % prime


def scaled_log(log, number):
    """The log of the law F(s x, s y) / s, s being the number."""
    check_log(log)
    check_number(number)
    ratio, last = ratio_of(number), log.degree
    if ratio.top == 0:
        raise InvalidOperation("a number other than 0 is expected")
    tops, bottoms = powers_to(ratio.top, last - 1), powers_to(ratio.bottom, last - 1)
    told = [log.tops[n] * tops[n - 1] * bottoms[last - n] for n in range(1, last + 1)]
    return made_row([0] + told, log.common_bottom * bottoms[last - 1], 0)


def _are_numbers(value):
    if not isinstance(value, tuple) or not 2 <= len(value) <= MAX_LAW:
        return False
    if not all([is_number(number) for number in value]):
        return False
    return ratio_of(value[0]) == Ratio(1)
