"""Curves of laws: shifted, stretched and picked, sums of many, and the terms of a curve.

What holds for the fractions is reckoned by logs: the log of a sum of curves is the sum of their
logs. What holds modulo m is reckoned with a whole law and a whole curve that leave the given ones.
"""

from lawseries.base.checks import (
    check_multiplier, check_no_modulus, check_one_modulus, is_number,
)
from lawseries.base.integers import powers_to, ratio_power, rest_of
from lawseries.base.numbers import check_count, divisors, is_prime
from lawseries.base.ratios import Ratio, ratio_of
from lawseries.errors import InvalidCurve, InvalidOperation
from lawseries.law.laws import check_law
from lawseries.log.logs import log_of
from lawseries.row.rows import Row, check_curve, made_row
from lawseries.step.steps import lift_of

MAX_CURVE = 24
MAX_SUMMED = 12


def shifted(curve, number):
    """The curve with a power of x in the place of x."""
    check_curve(curve)
    check_count(number, 1, MAX_CURVE)
    return curve.spread(number)


def stretched(curve, number):
    """The curve with a multiple of x in the place of x."""
    check_curve(curve)
    check_multiplier(number, curve.modulus)
    ratio, last = ratio_of(number), curve.degree
    tops = powers_to(rest_of(ratio.top, curve.modulus), last)
    bottoms = powers_to(ratio.bottom, last)
    told = [top * tops[at] * bottoms[last - at] for at, top in enumerate(curve.tops)]
    return made_row(told, curve.common_bottom * bottoms[last], curve.modulus)


def picked(given, curve, number):
    """The curve F_n c, n being the number."""
    check_law(given)
    check_curve(curve)
    check_count(number, 1, MAX_CURVE)
    check_one_modulus(given, curve)
    if number > min(given.degree, curve.degree):
        raise InvalidOperation("the number is above the degrees")
    log, raised = _log_and_curve(given, curve)
    told = log.put_in(raised)
    taken = made_row(told.tops[::number], told.common_bottom, 0).scaled(number)
    found = log.cut(taken.degree).turned_back().put_in(taken)
    return _led_back(found, given.modulus)


def curve_sum(given, curves):
    """The sum by a law of some curves."""
    check_law(given)
    if not isinstance(curves, tuple) or not 1 <= len(curves) <= MAX_SUMMED:
        raise InvalidCurve("a tuple of 1 to 12 curves is expected")
    for curve in curves:
        check_curve(curve)
    for curve in curves:
        check_one_modulus(given, curve)
    total = curves[0].cut(min(given.degree, curves[0].degree))
    for curve in curves[1:]:
        total = given.sum_of(total, curve)
    return total


def terms_of(given, curve):
    """The numbers a(n) for which a curve is the sum by a law of the curves a(n) * x ** n."""
    _check_both(given, curve)
    log, raised = _log_and_curve(given, curve)
    told = log.put_in(raised).entries
    terms = []
    for place in range(1, len(told)):
        left = told[place]
        for n in divisors(place)[:-1]:
            times = place // n
            left = left.minus(log.entries[times].times(ratio_power(terms[n - 1], times)))
        terms.append(left)
    if given.modulus == 0:
        return tuple(terms)
    # The terms of a whole curve of a whole law are integers.
    return tuple([term.top % given.modulus for term in terms])


def curve_of_terms(given, terms):
    """The curve with some terms."""
    check_law(given)
    if not _are_terms_for(given, terms):
        raise InvalidOperation("a tuple of 1 to 12 numbers is expected, with a modulus of integers")
    degree = min(given.degree, len(terms))
    total = _one_term(given, terms, 1, degree)
    for n in range(2, degree + 1):
        total = given.sum_of(total, _one_term(given, terms, n, degree))
    return total


def are_terms(given, curve, value):
    """Whether the value is the tuple of the terms of a curve."""
    terms = terms_of(given, curve)
    if not isinstance(value, tuple) or len(value) != len(terms):
        return False
    if given.modulus == 0:
        return value == terms
    return all([_is_residue(one, term) for one, term in zip(value, terms)])


def broken_prime(given):
    """The least prime for which F_p leads the curve x to one that is not whole, or None."""
    check_law(given)
    check_no_modulus(given)
    plain = Row.plain(given.degree)
    for number in range(2, given.degree + 1):
        if is_prime(number) and not picked(given, plain, number).is_whole:
            return number
    return None


def _check_both(given, curve):
    check_law(given)
    check_curve(curve)
    check_one_modulus(given, curve)


def _log_and_curve(given, curve):
    """The log of a law and a curve, or of a whole law and a whole curve that leave them.

    Both have the lesser degree of both.
    """
    degree = min(given.degree, curve.degree)
    if given.modulus == 0:
        return log_of(given).cut(degree), curve.cut(degree)
    # No law has a degree below 2.
    log = log_of(lift_of(given.cut(max(degree, 2))))
    return log.cut(degree), made_row(curve.tops[:degree + 1], 1, 0)


def _led_back(row, modulus):
    return row if modulus == 0 else row.led(modulus)


def _are_terms_for(given, value):
    if not isinstance(value, tuple) or not 1 <= len(value) <= MAX_SUMMED:
        return False
    if given.modulus != 0 and any([isinstance(term, Ratio) for term in value]):
        return False
    return all([is_number(term) for term in value])


def _one_term(given, terms, n, degree):
    """The curve a(n) * x ** n."""
    return Row((0,) * n + (terms[n - 1],) + (0,) * (degree - n), modulus=given.modulus)


def _is_residue(value, residue):
    return isinstance(value, int) and not isinstance(value, bool) and value == residue
