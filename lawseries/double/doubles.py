"""Double rows: power series in x and y as far as they are known."""

from math import comb, lcm

from lawseries.base.checks import (
    check_leading, check_modulus, check_multiplier, check_one_modulus, is_number,
)
from lawseries.base.integers import inverse, over_one_bottom, power_of, shared_divisor
from lawseries.base.numbers import check_count, step_divisor
from lawseries.base.ratios import Ratio, is_short_integer, made_ratio, ratio_of
from lawseries.double.layers import (
    empty_layers, layers_product, put_apart, put_layers, put_lists, reduced_layers, row_of_layers,
    weighted_layers,
)
from lawseries.errors import InvalidDouble, InvalidOperation
from lawseries.row.rows import (
    check_curve, check_led, check_row, check_together, made_row, modulus_text,
)

MAX_DOUBLE = 12


class Double:
    """A double row, which never changes.

    Its entries are kept as layers of integers, the layer n those with i + j = n by ascending i,
    over their least common bottom; for a modulus other than 0 they are residues.
    """

    def __init__(self, degree, entries, *, modulus=0):
        check_count(degree, 1, MAX_DOUBLE)
        if not _are_entries(entries, degree):
            raise InvalidDouble("a dict from places to ratios and integers is expected")
        check_modulus(modulus)
        if modulus != 0 and any([isinstance(entry, Ratio) for entry in entries.values()]):
            raise InvalidDouble("with a modulus the entries are integers")
        ratios = [ratio_of(entry) for entry in entries.values()]
        tops, self._bottom = over_one_bottom(ratios)
        layers = empty_layers(degree)
        for (i, j), top in zip(entries, tops):
            layers[i + j][i] = top
        self._modulus = modulus
        self._layers = _kept_layers(reduced_layers(layers, modulus))
        self._places = _places_of(self._layers)

    @property
    def entries(self):
        """The dict from the places to the entries other than 0."""
        return {(i, j): self._entry(i, j) for i, j in self._places}

    @property
    def layers(self):
        """The entries as integers over the common bottom."""
        return self._layers

    @property
    def common_bottom(self):
        return self._bottom

    @property
    def degree(self):
        return len(self._layers) - 1

    @property
    def modulus(self):
        return self._modulus

    @property
    def is_whole(self):
        return self._modulus == 0 and self._bottom == 1

    @property
    def is_even(self):
        """Whether it stays the same with x and y in each other's place."""
        return all([layer == layer[::-1] for layer in self._layers])

    def at(self, i, j):
        """The entry at a place."""
        check_count(i, 0, self.degree)
        check_count(j, 0, self.degree - i)
        return self._entry(i, j)

    def line(self, number):
        """The row of the multiples of a power of x."""
        check_count(number, 0, self.degree)
        tops = [layer[number] for layer in self._layers[number:]]
        return made_row(tops, self._bottom, self._modulus)

    def plus(self, other):
        _check_other(self, other)
        ours, theirs = self._bottom, other.common_bottom
        layers = [
            [one * theirs + two * ours for one, two in zip(left, right)]
            for left, right in zip(self._layers, other.layers)
        ]
        return made_double(layers, ours * theirs, self._modulus)

    def minus(self, other):
        _check_other(self, other)
        return self.plus(other.scaled(-1))

    def times(self, other):
        _check_other(self, other)
        layers = layers_product(self._layers, other.layers, self._modulus)
        return made_double(layers, self._bottom * other.common_bottom, self._modulus)

    def scaled(self, number):
        """The double row multiplied by a number."""
        check_multiplier(number, self._modulus)
        ratio = ratio_of(number)
        layers = [[top * ratio.top for top in layer] for layer in self._layers]
        return made_double(layers, self._bottom * ratio.bottom, self._modulus)

    def swapped(self):
        """The double row with x and y in each other's place."""
        return made_double([layer[::-1] for layer in self._layers], self._bottom, self._modulus)

    def put_rows(self, one, other):
        """The row that it makes with two curves in the places of x and y."""
        check_curve(one)
        check_curve(other)
        check_one_modulus(self, one)
        check_one_modulus(self, other)
        degree = min(self.degree, one.degree, other.degree)
        layers, bottom, lists = _over_lists(self, one, other, degree)
        tops = put_lists(layers, lists[0], lists[1], self._modulus)
        return made_row(tops, bottom, self._modulus)

    def put_doubles(self, one, other):
        """The double row that it makes with two double rows in the places of x and y."""
        check_double(one)
        check_double(other)
        check_one_modulus(self, one)
        check_one_modulus(self, other)
        if one.layers[0][0] != 0 or other.layers[0][0] != 0:
            raise InvalidOperation("the entries at (0, 0) must be 0")
        degree = min(self.degree, one.degree, other.degree)
        shared = lcm(one.common_bottom, other.common_bottom)
        layers = weighted_layers(self._layers[:degree + 1], shared)
        first, second = _layers_over(one, shared, degree), _layers_over(other, shared, degree)
        found = put_layers(layers, first, second, self._modulus)
        return made_double(found, self._bottom * power_of(shared, degree), self._modulus)

    def cut(self, degree):
        check_count(degree, 1, self.degree)
        return made_double(self._layers[:degree + 1], self._bottom, self._modulus)

    def led(self, modulus):
        """What the double row leaves by a modulus."""
        check_leading(modulus)
        check_led(self, modulus)
        return made_double(self._layers, self._bottom, modulus)

    def _entry(self, i, j):
        top = self._layers[i + j][i]
        return made_ratio(top, self._bottom) if self._modulus == 0 else top

    def __eq__(self, other):
        return (
            isinstance(other, Double) and self._modulus == other._modulus
            and self._layers == other._layers and self._bottom == other._bottom
        )

    def __len__(self):
        return len(self._places)

    def __iter__(self):
        return iter(self._places)

    def __str__(self):
        return f"double row of degree {len(self._layers) - 1}{modulus_text(self._modulus)}"


def row_double(row, double):
    """The row of a double row."""
    check_row(row)
    check_double(double)
    check_one_modulus(row, double)
    if row.degree == 0 or double.layers[0][0] != 0:
        raise InvalidOperation("a row of the degree 1 or more, and the entry 0 at (0, 0), expected")
    bottom = double.common_bottom
    layers = row_of_layers(row.tops, double.layers, bottom, row.modulus)
    return made_double(layers, row.common_bottom * power_of(bottom, len(layers) - 1), row.modulus)


def row_sum(one, other):
    """The double row one(x) + other(y)."""
    degree = _degree_of_both(one, other)
    layers = empty_layers(degree)
    for n in range(degree + 1):
        layers[n][n] = one.tops[n] * other.common_bottom
        # At n = 0 both rows meet.
        layers[n][0] += other.tops[n] * one.common_bottom
    return made_double(layers, one.common_bottom * other.common_bottom, one.modulus)


def row_product(one, other):
    """The double row one(x) * other(y)."""
    degree = _degree_of_both(one, other)
    layers = [[one.tops[i] * other.tops[n - i] for i in range(n + 1)] for n in range(degree + 1)]
    return made_double(layers, one.common_bottom * other.common_bottom, one.modulus)


def step_double(number, degree):
    """The step of a number, as a double row of a degree."""
    check_count(number, 2, MAX_DOUBLE)
    check_count(degree, number, MAX_DOUBLE)
    layers = empty_layers(degree)
    layers[number] = step_layer(number)
    return made_double(layers, 1, 0)


def step_layer(number):
    """The entries of the step of a number, those at its ends, which are 0, included."""
    divisor = step_divisor(number)
    return [0] + [comb(number, i) // divisor for i in range(1, number)] + [0]


def across(double, one, other):
    """The double row with a curve in x and a curve in y in the places of x and y."""
    degree = min(double.degree, one.degree, other.degree)
    layers, bottom, lists = _over_lists(double, one, other, degree)
    found = put_apart(layers, lists[0], lists[1], double.modulus)
    return made_double(found, bottom, double.modulus)


def made_double(layers, bottom, modulus):
    """The double row of layers over a bottom above 0, with a modulus over a unit.

    Unlike those of Double(), the integers may be of any length: the package made them itself.
    """
    made = Double(1, {})
    if modulus == 0:
        divisor = shared_divisor([top for layer in layers for top in layer], bottom)
        made._bottom = bottom // divisor
        if divisor != 1:
            layers = [[top // divisor for top in layer] for layer in layers]
    else:
        unit = 1 if bottom == 1 else inverse(bottom, modulus)
        layers = [[top * unit % modulus for top in layer] for layer in layers]
    made._layers = _kept_layers(layers)
    made._places = _places_of(made._layers)
    made._modulus = modulus
    return made


def check_double(double):
    """Refuses what is no double row."""
    if not isinstance(double, Double):
        raise InvalidDouble("a double row is expected")


def _check_other(one, other):
    check_double(other)
    check_one_modulus(one, other)


def _degree_of_both(one, other):
    check_together(one, other)
    degree = min(one.degree, other.degree, MAX_DOUBLE)
    if degree == 0:
        raise InvalidOperation("both degrees must be at least 1")
    return degree


def _over_lists(double, one, other, degree):
    """The layers of a double row, ready for two curves over one bottom; the bottom; the curves."""
    shared = lcm(one.common_bottom, other.common_bottom)
    layers = weighted_layers(double.layers[:degree + 1], shared)
    bottom = double.common_bottom * power_of(shared, degree)
    return layers, bottom, [_tops_over(row, shared, degree) for row in (one, other)]


def _tops_over(row, bottom, degree):
    weight = bottom // row.common_bottom
    return [top * weight for top in row.tops[:degree + 1]]


def _layers_over(double, bottom, degree):
    weight = bottom // double.common_bottom
    return [[top * weight for top in layer] for layer in double.layers[:degree + 1]]


def _kept_layers(layers):
    return tuple([tuple(layer) for layer in layers])


def _places_of(layers):
    return tuple([
        (i, n - i) for n, layer in enumerate(layers) for i, top in enumerate(layer) if top != 0
    ])


def _are_entries(value, degree):
    if not isinstance(value, dict) or not all([is_number(entry) for entry in value.values()]):
        return False
    return all([_is_place(place, degree) for place in value])


def _is_place(value, degree):
    if not isinstance(value, tuple) or len(value) != 2:
        return False
    i, j = value
    if not is_short_integer(i) or not is_short_integer(j):
        return False
    return i >= 0 and j >= 0 and i + j <= degree
