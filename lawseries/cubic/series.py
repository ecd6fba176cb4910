"""The series of a cubic: w(z), the differential, and the sum of two points by lines.

The entries of a cubic are the tuple (a1, a2, a3, a4, a6). The lists are those of lists.py, for the
modulus 0: all of their numbers are integers.
"""

from lawseries.double.doubles import Double, made_double, row_double, row_sum
from lawseries.row.lists import list_product, list_reciprocal
from lawseries.row.rows import made_row


def w_list(entries, degree):
    """The series w of z to a degree of at least 2."""
    a1, a2, a3, a4, a6 = entries
    found, squares, cubes = [0, 0, 0], [0, 0, 0], [0, 0, 0]
    for n in range(3, degree + 1):
        # w begins with z ** 3, so its powers at n are told by what is known of it.
        inner = list(range(3, n - 2))
        squares.append(sum([found[k] * found[n - k] for k in inner]))
        cubes.append(sum([found[k] * squares[n - k] for k in inner]))
        told = a1 * found[n - 1] + a2 * found[n - 2]
        told = told + a3 * squares[n] + a4 * squares[n - 1] + a6 * cubes[n]
        found.append(told + 1 if n == 3 else told)
    return found


def differential_list(entries, degree):
    """The differential to a degree.

    It is 1 divided by the derivative, by w, of what the equation has on its left less its right
    side: the differential of a cubic is the same for all letters in which it is written, and with
    this quotient it is seen to be whole.
    """
    a1, a2, a3, a4, a6 = entries
    w = w_list(entries, max(degree, 2))
    squares = list_product(w, w, 0)
    told = [-2 * a3 * w[n] - 3 * a6 * squares[n] for n in range(len(w))]
    told = [told[0]] + [told[n] - 2 * a4 * w[n - 1] for n in range(1, len(w))]
    told[0] = told[0] + 1
    told[1] = told[1] - a1
    told[2] = told[2] - a2
    return list_reciprocal(told[:degree + 1], 0)


def double_by_lines(entries, degree):
    """The double row of the sum of two points, by the line through them."""
    a1, _, a3, _, _ = entries
    w = made_row(w_list(entries, degree + 1), 1, 0)
    third = _third_point(entries, w, degree)
    below = third.scaled(a1).plus(row_double(w.cut(degree), third).scaled(a3))
    return third.scaled(-1).times(_geometric(below))


def _third_point(entries, w, degree):
    """The z of the third point on the line through two points."""
    a1, a2, a3, a4, a6 = entries
    x = Double(degree, {(1, 0): 1})
    # (x ** n - y ** n) / (x - y) has the entry 1 at all places (i, j) with i + j = n - 1.
    slope = made_double([[w.tops[n + 1]] * (n + 1) for n in range(degree + 1)], 1, 0)
    ahead = w.cut(degree)
    at_zero = row_sum(ahead, ahead.scaled(0)).minus(slope.times(x))
    square = slope.times(slope)
    above = slope.scaled(a1).plus(at_zero.scaled(a2)).plus(square.scaled(a3))
    above = above.plus(slope.times(at_zero).scaled(2 * a4))
    above = above.plus(square.times(at_zero).scaled(3 * a6))
    below = slope.scaled(-a2).plus(square.scaled(-a4)).plus(square.times(slope).scaled(-a6))
    told = x.plus(x.swapped()).plus(above.times(_geometric(below)))
    return told.scaled(-1)


def _geometric(double):
    """1 divided by 1 less a double row without an entry at (0, 0)."""
    return row_double(made_row([1] * (double.degree + 1), 1, 0), double)
