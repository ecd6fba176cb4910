"""Cubics y ** 2 + a1 x y + a3 y = x ** 3 + a2 x ** 2 + a4 x + a6, and the laws of their points."""

from lawseries.base.checks import check_number
from lawseries.base.numbers import check_count, check_prime
from lawseries.base.ratios import is_short_integer, ratio_of
from lawseries.cubic.series import differential_list, double_by_lines, w_list
from lawseries.errors import InvalidCount, InvalidCubic, InvalidPrime
from lawseries.law.laws import MAX_LAW, made_law
from lawseries.log.logs import law_of_log
from lawseries.row.rows import made_row

MAX_ENTRY = 1000
MAX_COUNTED = 97
TOLD = {
    11: (0, -1, 1, 0, 0),
    14: (1, 0, 1, -1, 0),
    15: (1, 1, 1, 0, 0),
    17: (1, -1, 1, -1, 0),
    19: (0, 1, 1, 1, 0),
    20: (0, 1, 0, -1, 0),
    21: (1, 0, 0, 1, 0),
    24: (0, -1, 0, 1, 0),
    27: (0, 0, 1, 0, 0),
    32: (0, 0, 0, -1, 0),
    36: (0, 0, 0, 0, 1),
    37: (0, 0, 1, -1, 0),
    49: (1, -1, 0, -2, -1),
}

_LEAST_SHOWN = 3
_MOST_SHOWN = 20


class Cubic:
    """A cubic, which never changes."""

    def __init__(self, a1, a2, a3, a4, a6):
        told = (a1, a2, a3, a4, a6)
        if not all([_is_entry(entry) for entry in told]):
            raise InvalidCubic("five integers from -1000 to 1000 are expected")
        self._told_entries = told
        self._discriminant, self._second = _invariants(told)

    @classmethod
    def told(cls, level):
        """The cubic that is told for a level."""
        if not is_short_integer(level) or level not in TOLD:
            raise InvalidCount(level)
        a1, a2, a3, a4, a6 = TOLD[level]
        return cls(a1, a2, a3, a4, a6)

    @property
    def told_entries(self):
        return self._told_entries

    @property
    def discriminant(self):
        return self._discriminant

    @property
    def second(self):
        return self._second

    def w_row(self, degree):
        """The row w(z) with -1 / y for w and -x / y for z."""
        check_count(degree, _LEAST_SHOWN, _MOST_SHOWN)
        return made_row(w_list(self._told_entries, degree), 1, 0)

    def differential_row(self, degree):
        check_count(degree, _LEAST_SHOWN, _MOST_SHOWN)
        return made_row(differential_list(self._told_entries, degree), 1, 0)

    def log_row(self, degree):
        """The log of the law of the cubic."""
        check_count(degree, 2, MAX_LAW)
        return made_row(differential_list(self._told_entries, degree - 1), 1, 0).summed_up()

    def law_by_log(self, degree):
        """The law of the cubic, by its log."""
        return law_of_log(self.log_row(degree))

    def law_by_lines(self, degree):
        """The law of the cubic, by the lines through two points."""
        check_count(degree, 2, MAX_LAW)
        return made_law(double_by_lines(self._told_entries, degree))

    def trace_at(self, prime):
        """The prime less the number of the points modulo the prime."""
        _check_counted(prime)
        return prime - _count_points(self._told_entries, prime)

    def kind_at(self, prime):
        """Whether the cubic is good at a prime, or has a node or a cusp."""
        _check_counted(prime)
        if self._discriminant % prime != 0:
            return "good"
        return "cusp" if self._second % prime == 0 else "node"

    def height_at(self, prime):
        """The height of the law modulo a prime, or None."""
        kind = self.kind_at(prime)
        if kind == "cusp":
            return None
        if kind == "good" and self.trace_at(prime) % prime == 0:
            return 2
        return 1

    def holds_at(self, one, other):
        """Whether the equation holds at two numbers x and y."""
        check_number(one)
        check_number(other)
        x, y = ratio_of(one), ratio_of(other)
        a1, a2, a3, a4, a6 = self._told_entries
        left = y.plus(x.times(a1)).plus(a3).times(y)
        right = x.plus(a2).times(x).plus(a4).times(x).plus(a6)
        return left == right

    def __eq__(self, other):
        return isinstance(other, Cubic) and self._told_entries == other._told_entries

    def __str__(self):
        return " ".join(["cubic"] + [str(entry) for entry in self._told_entries])


def _is_entry(value):
    return is_short_integer(value) and -MAX_ENTRY <= value <= MAX_ENTRY


def _invariants(told):
    """The discriminant and the second number."""
    a1, a2, a3, a4, a6 = told
    b2, b4, b6 = a1 * a1 + 4 * a2, 2 * a4 + a1 * a3, a3 * a3 + 4 * a6
    b8 = a1 * a1 * a6 + 4 * a2 * a6 - a1 * a3 * a4 + a2 * a3 * a3 - a4 * a4
    discriminant = -b2 * b2 * b8 - 8 * b4 * b4 * b4 - 27 * b6 * b6 + 9 * b2 * b4 * b6
    return discriminant, b2 * b2 - 24 * b4


def _check_counted(prime):
    check_prime(prime)
    if prime > MAX_COUNTED:
        raise InvalidPrime("a prime number to 97 is expected")


def _count_points(told, prime):
    """The number of the pairs of residues modulo a prime at which the equation holds."""
    a1, a2, a3, a4, a6 = told
    many = 0
    for x in range(prime):
        factor, right = a1 * x + a3, x * x * x + a2 * x * x + a4 * x + a6
        many = many + len([y for y in range(prime) if (y * y + factor * y - right) % prime == 0])
    return many
