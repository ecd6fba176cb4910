"""Rows between laws F and G: curves f with f(F(x, y)) = G(f(x), f(y))."""

from math import gcd

from lawseries.base.checks import check_no_modulus, check_number
from lawseries.base.integers import least_prime_of, power_of
from lawseries.between.search import Search, rows_above
from lawseries.double.doubles import across, row_double
from lawseries.errors import InvalidOperation, TooMany
from lawseries.law.laws import check_laws
from lawseries.log.logs import exp_of, log_of
from lawseries.row.rows import check_row, is_curve, is_unit

MAX_TRIED = 20000


def is_between(one, other, value):
    """Whether the value is a row from a law to another one."""
    check_laws(one, other)
    degree = min(one.degree, other.degree)
    if not is_curve(value) or value.modulus != one.modulus or value.degree != degree:
        return False
    return row_double(value, one.double) == across(other.double, value, value)


def row_between(one, other, first):
    """The row from a law to another one that has a first entry."""
    check_laws(one, other)
    check_number(first)
    check_no_modulus(one)
    return _row_with(one, other, first)


def strict_row(one, other):
    """The row from a law to another one that starts."""
    check_laws(one, other)
    check_no_modulus(one)
    return _row_with(one, other, 1)


def are_strictly_alike(one, other):
    """Whether the strict row between two whole laws is whole."""
    check_laws(one, other)
    check_no_modulus(one)
    if not one.is_whole or not other.is_whole:
        raise InvalidOperation("whole laws are expected")
    return _row_with(one, other, 1).is_whole


def row_fault(row):
    """The index of the first entry that is no integer, and the least prime in its bottom."""
    check_row(row)
    check_no_modulus(row)
    for index, top in enumerate(row.tops):
        bottom = row.common_bottom // gcd(top, row.common_bottom)
        if bottom != 1:
            return (index, least_prime_of([bottom]))
    return None


def rows_modulo(one, other):
    """All rows between two laws with a modulus, ascending by their tuples of entries."""
    search = _search_for(one, other)
    entries = (0,)
    yield from rows_above(search, entries)


def count_between(one, other):
    """The number of the rows between two laws with a modulus."""
    search = _search_for(one, other)
    entries = (0,)
    return len(list(rows_above(search, entries)))


def alike_row(one, other):
    """A row between two laws with a modulus whose entry 1 is a unit, or None."""
    search = _search_for(one, other)
    for first in range(one.modulus):
        if is_unit(first, one.modulus):
            entries = (0, first)
            for row in rows_above(search, entries):
                return row
    return None


def _row_with(one, other, first):
    degree = min(one.degree, other.degree)
    return exp_of(other.cut(degree)).put_in(log_of(one).scaled(first))


def _search_for(one, other):
    check_laws(one, other)
    if one.modulus == 0:
        raise InvalidOperation("laws with another modulus than 0 are expected")
    degree = min(one.degree, other.degree)
    if power_of(one.modulus, degree) > MAX_TRIED:
        raise TooMany(MAX_TRIED)
    return Search(one, other, degree)
