"""Genera: the numbers of projective spaces and other manifolds that tell a law."""

from lawseries.base.checks import is_number
from lawseries.base.numbers import check_count
from lawseries.base.ratios import Ratio, is_short_integer, ratio_of
from lawseries.double.doubles import row_product
from lawseries.errors import InvalidGenus, InvalidOperation
from lawseries.genus.tables import (
    power_sum, sequence_numbers, table_number, table_of_products, table_of_surface,
)
from lawseries.law.laws import MAX_LAW
from lawseries.log.logs import check_fraction_law, differential, exp_of, law_of_log
from lawseries.row.rows import Row, log_of_row, made_row

MAX_GENUS = 6


def projective_numbers(given):
    """The numbers P(0), P(1), .. of a law at all projective spaces."""
    check_fraction_law(given)
    return differential(given).entries


def law_of_projective(numbers):
    """The law with the numbers P(1), P(2), .."""
    if not isinstance(numbers, tuple) or not 1 <= len(numbers) < MAX_LAW:
        raise InvalidGenus("a tuple of 1 to 11 ratios and integers is expected")
    if not all([is_number(number) for number in numbers]):
        raise InvalidGenus("a tuple of 1 to 11 ratios and integers is expected")
    entries = [ratio_of(number).over(n) for n, number in enumerate(numbers, start=2)]
    return law_of_log(Row((0, 1) + tuple(entries)))


def surface_numbers(given):
    """The dict from all (i, j), i at most j, to the numbers H(i, j)."""
    check_fraction_law(given)
    double, last = _surface_double(given), given.degree
    return {
        (i, j): double.at(i, j)
        for i in range(last // 2 + 1) for j in range(max(i, 1), last - i + 1)
    }


def genus_fault(given):
    """The first of the numbers P(n) and H(i, j) that is no integer, or None."""
    for n, number in enumerate(projective_numbers(given)):
        if number.bottom != 1:
            return ("P", n)
    double = _surface_double(given)
    for total in range(1, given.degree + 1):
        for i in range(total // 2 + 1):
            if double.at(i, total - i).bottom != 1:
                return ("H", i, total - i)
    return None


def characteristic_row(given):
    """The row x / e(x), e being the exp of a law."""
    check_fraction_law(given)
    told = exp_of(given)
    return made_row(told.tops[1:], told.common_bottom, 0).reciprocal()


def sequence_of(given, degree):
    """The dict from all partitions of a degree to the numbers K of a law."""
    check_fraction_law(given)
    check_count(degree, 1, min(MAX_GENUS, given.degree - 1))
    return sequence_numbers(log_of_row(characteristic_row(given)).entries, degree)


def value_at(given, table):
    """The value of a law at a table."""
    check_fraction_law(given)
    degree = _checked_number(table)
    if degree >= given.degree:
        raise InvalidOperation("the table is beyond the degree of the law")
    found = Ratio(0)
    for partition, number in sequence_of(given, degree).items():
        found = found.plus(number.times(table[partition]))
    return found


def product_table(dimensions):
    """The table of a product of projective spaces."""
    if not isinstance(dimensions, tuple) or not 1 <= len(dimensions) <= MAX_GENUS:
        raise InvalidGenus("a tuple of 1 to 6 integers is expected")
    if not all([is_short_integer(number) and number >= 1 for number in dimensions]):
        raise InvalidGenus("integers of at least 1 are expected")
    if sum(dimensions) > MAX_GENUS:
        raise InvalidGenus("integers that add up to at most 6 are expected")
    return table_of_products(dimensions)


def surface_table(one, other):
    """The table of the surface in a product of two projective spaces."""
    check_count(one, 1, MAX_GENUS)
    check_count(other, 1, MAX_GENUS)
    if one + other > MAX_GENUS + 1:
        raise InvalidOperation("integers that add up to at most 7 are expected")
    return table_of_surface(one, other)


def end_number(table):
    """The number that the sum of the powers with the greatest exponent gives at a table."""
    degree = _checked_number(table)
    return sum([number * table[partition] for partition, number in power_sum(degree).items()])


def _checked_number(table):
    degree = table_number(table, MAX_GENUS)
    if degree is None:
        raise InvalidGenus("a dict from all partitions of 1 to 6 to integers is expected")
    return degree


def _surface_double(given):
    """The double row w(x) * w(y) * F(x, y)."""
    told = differential(given)
    # The entry of w beyond its degree is not asked for: F begins with x + y.
    longer = made_row(told.tops + (0,), told.common_bottom, 0)
    return row_product(longer, longer).times(given.double)
