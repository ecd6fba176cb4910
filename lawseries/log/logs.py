"""Logs: the starting rows that lead laws to x + y."""

from math import comb, gcd

from lawseries.base.checks import check_no_modulus, check_number
from lawseries.base.integers import least_prime_of
from lawseries.double.doubles import across, made_double
from lawseries.errors import InvalidLog, InvalidOperation
from lawseries.law.laws import MAX_LAW, check_law, made_law
from lawseries.row.rows import Row, check_curve, check_row, is_curve


def differential(given):
    """1 divided by the row of the multiples of x in the law, taken as a row in y."""
    check_law(given)
    return given.double.line(1).reciprocal()


def log_of(given):
    """The log of a law with the modulus 0."""
    check_fraction_law(given)
    return differential(given).summed_up()


def exp_of(given):
    """The exp of a law with the modulus 0."""
    return log_of(given).turned_back()


def law_of_log(log):
    """The law with a log."""
    check_log(log)
    added = _of_sum(log.turned_back())
    return made_law(across(added, log, log))


def is_log(value):
    """Whether the value is a row x + .. with the modulus 0 and a degree from 2 to 12."""
    if not isinstance(value, Row) or value.modulus != 0 or not 2 <= value.degree <= MAX_LAW:
        return False
    return value.tops[0] == 0 and value.tops[1] == value.common_bottom


def is_whole_log(value):
    """Whether the value is a log whose law is whole."""
    return is_log(value) and law_of_log(value).is_whole


def log_fault(log):
    """Why the law of a log is not whole, or None if it is."""
    double = law_of_log(log).double
    for n, layer in enumerate(double.layers):
        bottoms = [double.common_bottom // gcd(top, double.common_bottom) for top in layer]
        if any([bottom != 1 for bottom in bottoms]):
            return (n, least_prime_of(bottoms))
    return None


def fold_row(log, number):
    """The row exp(c * log(x)), c being the number."""
    check_log(log)
    check_number(number)
    return log.turned_back().put_in(log.scaled(number))


def curve_log(log, curve):
    """The log of a curve."""
    check_log(log)
    check_curve(curve)
    check_no_modulus(curve)
    return log.put_in(curve)


def curve_of_log(log, row):
    """The curve whose log is a row."""
    check_log(log)
    check_curve(row)
    check_no_modulus(row)
    return log.turned_back().put_in(row)


def changed_log(log, row):
    """The log of the law with a log, changed by a curve."""
    check_log(log)
    check_row(row)
    check_no_modulus(row)
    if row.degree < 2 or not is_curve(row) or row.tops[1] == 0:
        raise InvalidOperation("a curve with an entry 1, of the degree 2 or more, is expected")
    back = row.cut(min(row.degree, log.degree)).turned_back()
    return log.put_in(back).scaled(row.at(1))


def check_log(log):
    """Refuses what is no log."""
    if not is_log(log):
        raise InvalidLog("a row x + .. with the modulus 0 and a degree from 2 to 12 is expected")


def check_fraction_law(given):
    """Refuses what is no law, and a law with another modulus than 0."""
    check_law(given)
    check_no_modulus(given)


def _of_sum(row):
    """The double row that a row makes of x + y."""
    layers = [[top * comb(n, i) for i in range(n + 1)] for n, top in enumerate(row.tops)]
    return made_double(layers, row.common_bottom, 0)
