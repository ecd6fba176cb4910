"""Tables: dicts from all partitions of a number to integers, and polynomials that make them.

A polynomial is a dict from the exponents of its letters to its numbers. With the greatest
exponents of the letters told, what is beyond them is left out.
"""

from math import comb, factorial

from lawseries.base.ratios import Ratio, is_short_integer


def all_partitions(number):
    """The list of all partitions of a number, ascending."""
    return _partitions_below(number, number)


def table_number(value, most):
    """The number, up to a bound, whose partitions a table has; None for what is no table."""
    if not isinstance(value, dict):
        return None
    for number in range(1, most + 1):
        wanted = all_partitions(number)
        if len(value) == len(wanted) and all([one in value for one in wanted]):
            return number if _has_integers(value) else None
    return None


def power_sum(number):
    """The sum of the powers xi ** number by products of elementary symmetric polynomials."""
    found = {}
    for partition in all_partitions(number):
        many = len(partition)
        top = number * factorial(many - 1)
        for part in range(1, number + 1):
            top = top // factorial(partition.count(part))
        found[partition] = top if (number - many) % 2 == 0 else -top
    return found


def sequence_numbers(logged, number):
    """The numbers K at all partitions of a number for a row Q, told by the entries of its log.

    The product of Q(xi) over all i is the exp of the sum of the entries times power sums.
    """
    found = [{(): Ratio(1)}]
    for total in range(1, number + 1):
        sums = {partition: Ratio(0) for partition in all_partitions(total)}
        for k in range(1, total + 1):
            weight = logged[k].times(k).over(total)
            _add_products(sums, weight, power_sum(k), found[total - k])
        found.append(sums)
    return found[number]


def table_of_products(dimensions):
    """The table of a product of projective spaces."""
    letters = list(range(len(dimensions)))
    total = {(0,) * len(dimensions): 1}
    first = total
    for letter in letters:
        power = {
            tuple([many if at == letter else 0 for at in letters]): comb(dimensions[letter] + 1, many)
            for many in range(dimensions[letter] + 1)
        }
        total = _product(total, power, dimensions)
    return _table_by(total, first, dimensions, sum(dimensions))


def table_of_surface(one, other):
    """The table of the surface of one equation x + y in a product of two projective spaces."""
    tops, line = (one, other), {(1, 0): 1, (0, 1): 1}
    total = {
        (i, j): comb(one + 1, i) * comb(other + 1, j)
        for i in range(one + 1) for j in range(other + 1)
    }
    # 1 divided by 1 + x + y: the power k of x + y has the sign of (-1) ** k.
    below = {
        (i, j): comb(i + j, i) if (i + j) % 2 == 0 else -comb(i + j, i)
        for i in range(one + 1) for j in range(other + 1)
    }
    return _table_by(_product(total, below, tops), line, tops, one + other - 1)


def _partitions_below(number, most):
    if number == 0:
        return [()]
    return [
        (part,) + rest
        for part in range(1, min(number, most) + 1)
        for rest in _partitions_below(number - part, part)
    ]


def _has_integers(table):
    """Whether a dict with all partitions, True perhaps for 1, has integers alone."""
    for partition in table:
        if not all([is_short_integer(part) for part in partition]):
            return False
    return all([is_short_integer(number) for number in table.values()])


def _add_products(sums, weight, one, other):
    """Adds a number times the product of two sums of products of symmetric polynomials."""
    for left, number in one.items():
        for right, worth in other.items():
            place = tuple(sorted(left + right, reverse=True))
            sums[place] = sums[place].plus(weight.times(number).times(worth))


def _product(one, other, tops):
    found = {}
    for left, number in one.items():
        for right, worth in other.items():
            place = tuple([first + second for first, second in zip(left, right)])
            if all([exponent <= top for exponent, top in zip(place, tops)]):
                found[place] = found.get(place, 0) + number * worth
    return found


def _table_by(total, first, tops, number):
    """The multiple of the last place in `first` times the parts of a total, for all partitions."""
    parts = [
        {place: worth for place, worth in total.items() if sum(place) == size}
        for size in range(number + 1)
    ]
    table = {}
    for partition in all_partitions(number):
        found = first
        for degree in partition:
            found = _product(found, parts[degree], tops)
        table[partition] = found.get(tuple(tops), 0)
    return table
