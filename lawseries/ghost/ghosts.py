"""Ghosts: integers a(n) for which exp(a(1) x + a(2) x ** 2 / 2 + ..) is whole."""

from math import factorial

from lawseries.base.checks import check_leading
from lawseries.base.integers import power_of
from lawseries.base.numbers import check_count, check_prime, divisors, moebius
from lawseries.base.ratios import is_short_integer
from lawseries.errors import InvalidCount, InvalidGhosts, InvalidOperation
from lawseries.row.rows import check_row, made_row

MAX_GHOSTS = 24


class Witt:
    """Ghosts, told by their coordinates, which never change."""

    def __init__(self, coordinates):
        check_integers(coordinates)
        self._coordinates = coordinates
        self._ghosts = _ghosts_of(coordinates)

    @classmethod
    def single(cls, number, degree):
        """The ghosts with the coordinates number, 0, .., 0."""
        if not is_short_integer(number):
            raise InvalidCount(number)
        check_count(degree, 1, MAX_GHOSTS)
        return cls((number,) + (0,) * (degree - 1))

    @classmethod
    def of_ghosts(cls, numbers):
        """The ghosts that some integers are."""
        check_integers(numbers)
        _check_ghosts(numbers)
        return _made_witt(numbers)

    @classmethod
    def of_row(cls, row):
        """The ghosts with a row."""
        check_row(row)
        if not row.is_whole or row.degree == 0 or row.tops[0] != 1:
            raise InvalidOperation("a whole row 1 + .. of the degree 1 or more is expected")
        return _made_witt(_ghosts_of_row(row.tops))

    @property
    def degree(self):
        return len(self._coordinates)

    @property
    def coordinates(self):
        return self._coordinates

    @property
    def ghosts(self):
        return self._ghosts

    @property
    def counts(self):
        return _counts_of(self._ghosts)

    def as_row(self):
        """The row of the ghosts."""
        return _row_of(self._ghosts)

    def plus(self, other):
        _check_witt(other)
        return _made_witt([one + two for one, two in zip(self._ghosts, other.ghosts)])

    def minus(self, other):
        _check_witt(other)
        return _made_witt([one - two for one, two in zip(self._ghosts, other.ghosts)])

    def times(self, other):
        _check_witt(other)
        return _made_witt([one * two for one, two in zip(self._ghosts, other.ghosts)])

    def opposite(self):
        """What has the ghosts with the other sign."""
        return _made_witt([-ghost for ghost in self._ghosts])

    def moved(self, number):
        """What has k * a(n / k) at each n that k divides, k being the number."""
        check_count(number, 1, MAX_GHOSTS)
        places = range(1, self.degree + 1)
        return _made_witt([
            number * self._ghosts[n // number - 1] if n % number == 0 else 0 for n in places
        ])

    def taken(self, number):
        """What has the ghosts a(k), a(2 * k), .., k being the number."""
        check_count(number, 1, MAX_GHOSTS)
        if number > self.degree:
            raise InvalidOperation("the number is above the degree")
        return _made_witt(self._ghosts[number - 1::number])

    def cut(self, degree):
        check_count(degree, 1, self.degree)
        return _made_witt(self._ghosts[:degree])

    def rests(self, modulus):
        """What the coordinates leave by a modulus."""
        check_leading(modulus)
        return tuple([number % modulus for number in self._coordinates])

    def __eq__(self, other):
        return isinstance(other, Witt) and self._coordinates == other._coordinates

    def __len__(self):
        return len(self._coordinates)

    def __str__(self):
        return " ".join(["witt"] + [str(number) for number in self._coordinates])


def are_ghosts(value):
    """Whether the value is a tuple of 1 to 24 integers that are ghosts."""
    return _are_integers(value) and _fault_of(value) is None


def ghost_fault(numbers):
    """The least n that does not divide the sum of moebius(n / d) * a(d), or None."""
    check_integers(numbers)
    return _fault_of(numbers)


def ghost_row(numbers):
    """The row of some integers, ghosts or not."""
    check_integers(numbers)
    return _row_of(numbers)


def counts_of(numbers):
    """The integers b(n) for which each a(n) is the sum of d * b(d) over the divisors d of n."""
    check_integers(numbers)
    _check_ghosts(numbers)
    return _counts_of(numbers)


def artin_row(prime, degree):
    """The row exp(x + x ** p / p + x ** (p * p) / (p * p) + ..)."""
    check_prime(prime)
    check_count(degree, 1, MAX_GHOSTS)
    numbers = [0] * degree
    place = 1
    while place <= degree:
        numbers[place - 1] = 1
        place = place * prime
    return _row_of(numbers)


def check_integers(numbers):
    """Refuses what is no tuple of 1 to 24 integers."""
    if not _are_integers(numbers):
        raise InvalidGhosts("a tuple of 1 to 24 integers is expected")


def _are_integers(value):
    if not isinstance(value, tuple) or not 1 <= len(value) <= MAX_GHOSTS:
        return False
    return all([is_short_integer(number) for number in value])


def _check_ghosts(numbers):
    if _fault_of(numbers) is not None:
        raise InvalidOperation("the integers are no ghosts")


def _check_witt(other):
    if not isinstance(other, Witt):
        raise InvalidGhosts("an object of Witt is expected")


def _made_witt(ghosts):
    """The object with some integers that are known to be ghosts, of any length."""
    made = Witt((0,))
    made._coordinates = _coordinates_of(ghosts)
    made._ghosts = tuple(ghosts)
    return made


def _turned_sum(numbers, n):
    """The sum of moebius(n / d) * a(d) over the divisors d of n."""
    return sum([moebius(n // d) * numbers[d - 1] for d in divisors(n)])


def _fault_of(numbers):
    for n in range(1, len(numbers) + 1):
        if _turned_sum(numbers, n) % n != 0:
            return n
    return None


def _counts_of(ghosts):
    return tuple([_turned_sum(ghosts, n) // n for n in range(1, len(ghosts) + 1)])


def _ghosts_of(coordinates):
    places = range(1, len(coordinates) + 1)
    return tuple([_power_sum(coordinates, n, divisors(n)) for n in places])


def _coordinates_of(ghosts):
    found = []
    for n in range(1, len(ghosts) + 1):
        known = _power_sum(found, n, divisors(n)[:-1])
        found.append((ghosts[n - 1] - known) // n)
    return tuple(found)


def _power_sum(coordinates, n, places):
    """The sum of d * c(d) ** (n / d) over some divisors d of n."""
    return sum([d * power_of(coordinates[d - 1], n // d) for d in places])


def _row_of(numbers):
    """The row h of some integers: n * h(n) is the sum of a(k) * h(n - k) over k from 1 to n."""
    degree = len(numbers)
    # Kept are the entries times n!, which are integers also where the entries are none.
    found = [1]
    for n in range(1, degree + 1):
        told, weight = 0, 1
        for k in range(1, n + 1):
            told = told + numbers[k - 1] * weight * found[n - k]
            weight = weight * (n - k)
        found.append(told)
    many = factorial(degree)
    return made_row([top * (many // factorial(n)) for n, top in enumerate(found)], many, 0)


def _ghosts_of_row(entries):
    """The integers with a row of integers that begins with 1."""
    found = []
    for n in range(1, len(entries)):
        known = sum([found[k - 1] * entries[n - k] for k in range(1, n)])
        found.append(n * entries[n] - known)
    return found
