"""Parts and types: what a log is at one prime."""

from lawseries.base.checks import is_number
from lawseries.base.integers import inverse, power_of, ratio_power
from lawseries.base.numbers import check_count, check_prime
from lawseries.base.ratios import Ratio, is_short_integer, made_ratio, ratio_of
from lawseries.double.doubles import Double
from lawseries.errors import InvalidOperation, InvalidParts
from lawseries.law.laws import MAX_LAW, Law
from lawseries.log.logs import check_log, law_of_log
from lawseries.row.rows import Row

_MAX_PARTS = 3


def is_whole_at(prime, value):
    """Whether the value is a number, or an object with the modulus 0, that is whole at a prime."""
    check_prime(prime)
    if is_number(value):
        return ratio_of(value).bottom % prime != 0
    if isinstance(value, Law):
        return value.modulus == 0 and value.double.common_bottom % prime != 0
    if isinstance(value, Row) or isinstance(value, Double):
        return value.modulus == 0 and value.common_bottom % prime != 0
    return False


def part_log(log, prime):
    """The p-part of a log: its entries at the powers of a prime alone."""
    _check_both(log, prime)
    return _log_with(_entries_at_powers(log, prime), prime, log.degree)


def part_law(log, prime):
    """The law of the p-part of a log."""
    return law_of_log(part_log(log, prime))


def part_row(log, prime):
    """The starting row that leads from the law of a log to that of its p-part."""
    return part_log(log, prime).turned_back().put_in(log)


def parts_of(log, prime):
    """The parts of a log at a prime."""
    _check_both(log, prime)
    return _parts(log, prime, False)


def second_parts_of(log, prime):
    """The second parts of a log at a prime."""
    _check_both(log, prime)
    return _parts(log, prime, True)


def log_of_parts(prime, parts, degree):
    """The p-part of a degree with some parts."""
    _check_parts(prime, parts, degree)
    return _log_of_parts(prime, parts, degree, False)


def log_of_second_parts(prime, parts, degree):
    """The p-part of a degree with some second parts."""
    _check_parts(prime, parts, degree)
    return _log_of_parts(prime, parts, degree, True)


def type_of(log, prime):
    """The plain type of a log at a prime, or None if its law is not whole there."""
    _check_both(log, prime)
    digits = ()
    for place in powers_within(prime, log.degree)[1:]:
        told = _type_sum(log, prime, digits, place)
        if told.bottom % prime == 0:
            return None
        digits = digits + (-told.top * inverse(told.bottom, prime) % prime,)
    return digits if _is_type(log, prime, digits) else None


def is_type(log, prime, value):
    """Whether the value is a type of a log at a prime."""
    _check_both(log, prime)
    if not isinstance(value, tuple) or len(value) != len(powers_within(prime, log.degree)) - 1:
        return False
    # Here integers may be of any length.
    if not all([isinstance(digit, int) and not isinstance(digit, bool) for digit in value]):
        return False
    return _is_type(log, prime, value)


def log_of_type(prime, digits, degree):
    """The p-part b of a degree with p * b(x), u(k) * b(x ** (p ** k)), .. adding up to p * x."""
    check_prime(prime)
    if not _are_some(digits) or not all([is_short_integer(digit) for digit in digits]):
        raise InvalidParts("a tuple of at most three integers is expected")
    _check_number_of(digits, prime, degree)
    entries = [Ratio(1)]
    for k in range(1, len(digits) + 1):
        told = Ratio(0)
        for j in range(1, k + 1):
            told = told.minus(entries[k - j].times(digits[j - 1]))
        entries.append(told.over(prime))
    return _log_with(entries, prime, degree)


def are_alike_at(one, other, prime):
    """Whether the strict row between the laws of two logs is whole at a prime."""
    check_log(one)
    check_log(other)
    check_prime(prime)
    if not is_whole_at(prime, law_of_log(one)) or not is_whole_at(prime, law_of_log(other)):
        raise InvalidOperation("laws that are whole at the prime are expected")
    degree = min(one.degree, other.degree)
    return is_whole_at(prime, other.cut(degree).turned_back().put_in(one))


def powers_within(prime, degree):
    """The powers 1, p, p ** 2, .. of a prime to a degree."""
    found = [1]
    while found[-1] * prime <= degree:
        found.append(found[-1] * prime)
    return found


def _check_both(log, prime):
    check_log(log)
    check_prime(prime)


def _check_parts(prime, parts, degree):
    check_prime(prime)
    if not _are_some(parts) or not all([is_number(part) for part in parts]):
        raise InvalidParts("a tuple of at most three ratios or integers is expected")
    _check_number_of(parts, prime, degree)


def _are_some(value):
    return isinstance(value, tuple) and len(value) <= _MAX_PARTS


def _check_number_of(parts, prime, degree):
    check_count(degree, 2, MAX_LAW)
    if len(parts) != len(powers_within(prime, degree)) - 1:
        raise InvalidOperation("as many as powers of the prime to the degree are expected")


def _entries_at_powers(log, prime):
    return [log.entries[place] for place in powers_within(prime, log.degree)]


def _log_with(entries, prime, degree):
    """The log of a degree with some entries at the powers of a prime, and 0 elsewhere."""
    told = [0] * (degree + 1)
    for place, entry in zip(powers_within(prime, degree), entries):
        told[place] = entry
    return Row(tuple(told))


def _parts(log, prime, second):
    entries, parts = _entries_at_powers(log, prime), []
    for k in range(1, len(entries)):
        told = entries[k].times(_divisor_at(prime, k, second))
        parts.append(told.minus(_part_sum(entries, parts, prime, k, 1)))
    return tuple(parts)


def _log_of_parts(prime, parts, degree, second):
    entries, ratios = [Ratio(1)], [ratio_of(part) for part in parts]
    for k in range(1, len(parts) + 1):
        told = _part_sum(entries, ratios, prime, k, 0)
        entries.append(told.over(_divisor_at(prime, k, second)))
    return _log_with(entries, prime, degree)


def _divisor_at(prime, k, second):
    """What the entry at p ** k is multiplied by: p, and for second parts less than that."""
    taken = power_of(prime, power_of(prime, k)) if second else 0
    return made_ratio(prime - taken, 1)


def _part_sum(entries, parts, prime, k, first):
    """The sum of a(p ** j) * v(k - j) ** (p ** j) over j from the first one to k - 1."""
    told = Ratio(0)
    for j in range(first, k):
        told = told.plus(entries[j].times(ratio_power(parts[k - j - 1], power_of(prime, j))))
    return told


def _type_sum(log, prime, digits, place):
    """p * a(n), and u(k) * a(n / p ** k) for all k for which this is an entry; n is the place."""
    told = log.entries[place].times(prime)
    for digit, power in zip(digits, powers_within(prime, log.degree)[1:]):
        if place % power == 0:
            told = told.plus(log.entries[place // power].times(made_ratio(digit, 1)))
    return told


def _is_type(log, prime, digits):
    told = [_type_sum(log, prime, digits, place) for place in range(1, log.degree + 1)]
    # If p divides the top, it does not divide the bottom: ratios are in lowest terms.
    return all([number.top % prime == 0 for number in told])
