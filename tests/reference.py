"""Polynomials of any number of letters, slow and plain, to which the package is compared."""

import random
from fractions import Fraction

from lawseries.base.ratios import Ratio
from lawseries.double.doubles import Double
from lawseries.law.laws import Law
from lawseries.log.logs import law_of_log
from lawseries.row.rows import Row


class Poly:
    """A polynomial cut at a total degree: a dict from exponents to numbers other than 0."""

    def __init__(self, letters, degree, terms, modulus=0):
        self.letters, self.degree, self.modulus = letters, degree, modulus
        self.terms = {}
        for place, number in terms.items():
            number = Fraction(number) if modulus == 0 else number % modulus
            if number and sum(place) <= degree:
                self.terms[place] = number

    def like(self, terms):
        return Poly(self.letters, self.degree, terms, self.modulus)

    def cut(self, degree):
        return Poly(self.letters, degree, self.terms, self.modulus)

    def __add__(self, other):
        terms = dict(self.terms)
        for place, number in other.terms.items():
            terms[place] = terms.get(place, 0) + number
        return self.like(terms)

    def scaled(self, factor):
        return self.like({place: number * factor for place, number in self.terms.items()})

    def __sub__(self, other):
        return self + other.scaled(-1)

    def __mul__(self, other):
        terms = {}
        for one, left in self.terms.items():
            for two, right in other.terms.items():
                place = tuple(a + b for a, b in zip(one, two))
                if sum(place) <= self.degree:
                    terms[place] = terms.get(place, 0) + left * right
        return self.like(terms)

    def one(self):
        return self.like({(0,) * self.letters: 1})

    def __pow__(self, many):
        found = self.one()
        for _ in range(many):
            found = found * self
        return found

    def of(self, *others):
        """This one of others, one for each letter."""
        powers = []
        for other in others:
            row = [other.one()]
            for _ in range(self.degree):
                row.append(row[-1] * other)
            powers.append(row)
        found = others[0].like({})
        for place, number in self.terms.items():
            term = others[0].one().scaled(number)
            for row, exponent in zip(powers, place):
                term = term * row[exponent]
            found = found + term
        return found

    def __eq__(self, other):
        return (self.letters, self.degree, self.modulus, self.terms) == (
            other.letters, other.degree, other.modulus, other.terms)

    def __repr__(self):
        return f"Poly({self.letters}, {self.degree}, {self.terms}, {self.modulus})"


def letter(place, letters, degree, modulus=0):
    exponents = tuple(int(at == place) for at in range(letters))
    return Poly(letters, degree, {exponents: 1}, modulus)


def fraction(number):
    return Fraction(number.top, number.bottom) if isinstance(number, Ratio) else number


def of_row(row):
    terms = {(at,): fraction(entry) for at, entry in enumerate(row.entries)}
    return Poly(1, row.degree, terms, row.modulus)


def of_double(double):
    terms = {place: fraction(entry) for place, entry in double.entries.items()}
    return Poly(2, double.degree, terms, double.modulus)


def some_numbers(source, many, modulus):
    """Numbers of all kinds, many of them 0: integers, with the modulus 0 ratios, too."""
    found = []
    for _ in range(many):
        kind = source.randrange(6)
        if kind == 0:
            found.append(0)
        elif kind == 1 and modulus == 0:
            found.append(Ratio(source.randrange(-9, 10), source.randrange(1, 10)))
        elif kind == 2:
            found.append(source.randrange(-10 ** 6, 10 ** 6))
        else:
            found.append(source.randrange(-3, 4))
    return found


def some_row(seed, degree, modulus=0, beginning=()):
    """A row with some first entries, the same for each seed."""
    source = random.Random(f"row {seed} {degree} {modulus}")
    entries = list(beginning) + some_numbers(source, degree + 1 - len(beginning), modulus)
    return Row(tuple(entries[:degree + 1]), modulus=modulus)


def some_double(seed, degree, modulus=0, constant=True):
    source = random.Random(f"double {seed} {degree} {modulus}")
    places = [(i, j) for i in range(degree + 1) for j in range(degree + 1 - i)]
    entries = dict(zip(places, some_numbers(source, len(places), modulus)))
    if not constant:
        del entries[0, 0]
    return Double(degree, entries, modulus=modulus)


def some_log(seed, degree):
    """A log, mostly of no whole law, the same for each seed."""
    return some_row(seed, degree, 0, (0, 1))


def some_laws(modulus):
    """Laws of some degrees, for the modulus 0 some that are whole and some that are not."""
    found = [
        Law.additive(2, modulus=modulus), Law.multiplicative(6, 1, modulus=modulus),
        Law.multiplicative(4, -2, modulus=modulus), Law.quadric(5, 1, 2, modulus=modulus),
        Law.quadric(7, -3, 1, modulus=modulus),
    ]
    curve = some_row(1, 5, modulus, (0, 1))
    found += [given.changed(curve) for given in found[1:4]]
    if modulus == 0:
        found += [law_of_log(some_log(seed, degree)) for seed, degree in ((1, 3), (2, 5), (3, 6))]
    return found


def slow_fault(double):
    """The fault of a double row, told by its definition."""
    degree, modulus = double.degree, double.modulus
    given, added = of_double(double), letter(0, 2, degree, modulus) + letter(1, 2, degree, modulus)
    ends = [(sum(at), at) for at in (given - added).terms if 0 in at]
    if ends:
        return ("plain", min(ends)[1])
    swaps = [
        (i + j, (i, j)) for (i, j) in [*given.terms, *[(j, i) for i, j in given.terms]]
        if i < j and given.terms.get((i, j), 0) != given.terms.get((j, i), 0)
    ]
    if swaps:
        return ("swap", min(swaps)[1])
    x, y, z = [letter(at, 3, degree, modulus) for at in range(3)]
    unlike = given.of(given.of(x, y), z) - given.of(x, given.of(y, z))
    groups = [(sum(at), at) for at in unlike.terms]
    return ("group", min(groups)[1]) if groups else None
