"""Reckoning with layers: series in x and y as lists of lists of integers.

The layer n has the multiples of x ** i * y ** (n - i), for i from 0 to n. As in lists.py, the
integers are residues, or stand over a common bottom that is left to the callers.
"""

from lawseries.base.integers import powers_to, reduced
from lawseries.row.lists import list_powers, list_product


def empty_layers(degree):
    """Layers with zeros alone."""
    return [[0] * (layer + 1) for layer in range(degree + 1)]


def reduced_layers(layers, modulus):
    """What some layers leave by a modulus."""
    return [reduced(layer, modulus) for layer in layers]


def weighted_layers(layers, number):
    """The layers times the powers of a number, the last one times 1, the one ahead times it."""
    weights = powers_to(number, len(layers) - 1)[::-1]
    return [[top * weight for top in layer] for layer, weight in zip(layers, weights)]


def add_product(layer, one, other):
    """Adds the product of two layers to a third one."""
    for first, left in enumerate(one):
        if left != 0:
            for second, right in enumerate(other, start=first):
                layer[second] += left * right


def layers_product(one, other, modulus):
    """The product of two series, to the lesser degree."""
    degree = min(len(one), len(other)) - 1
    found = empty_layers(degree)
    for first in range(degree + 1):
        if any(one[first]):
            for second in range(degree + 1 - first):
                add_product(found[first + second], one[first], other[second])
    return reduced_layers(found, modulus)


def layers_powers(layers, modulus):
    """The powers of layers that begin with 0, from 0 to the last one that can be other than 0."""
    degree = len(layers) - 1
    first = empty_layers(degree)
    first[0][0] = 1
    found = [first]
    for _ in range(degree):
        found.append(layers_product(found[-1], layers, modulus))
    return found


def add_multiple(layers, number, other):
    """Adds a number times some layers to others of the same degree."""
    for layer, added in zip(layers, other):
        for place, top in enumerate(added):
            layer[place] += number * top


def row_of_layers(numbers, layers, bottom, modulus):
    """A list of layers that begin with 0 and stand over a bottom.

    What is returned stands over the power of this bottom with the degree as its exponent.
    """
    degree = min(len(numbers), len(layers)) - 1
    found = empty_layers(degree)
    for number, power in zip(numbers[:degree + 1][::-1], powers_to(bottom, degree)):
        found = layers_product(found, layers, modulus)
        found[0][0] = number * power
    return reduced_layers(found, modulus)


def put_lists(layers, one, other, modulus):
    """The list of layers with two lists that begin with 0 in the places of x and of y."""
    powers = list_powers(one, modulus)
    degree = len(layers) - 1
    found = [0] * (degree + 1)
    for height in reversed(range(degree + 1)):
        found = list_product(found, other, modulus)
        for first in range(degree + 1 - height):
            number = layers[first + height][first]
            if number != 0:
                found = [old + number * new for old, new in zip(found, powers[first])]
    return reduced(found, modulus)


def put_layers(layers, one, other, modulus):
    """Layers with two others that begin with 0 in the places of x and of y."""
    powers = layers_powers(one, modulus)
    degree = len(layers) - 1
    found = empty_layers(degree)
    for height in reversed(range(degree + 1)):
        found = layers_product(found, other, modulus)
        for first in range(degree + 1 - height):
            number = layers[first + height][first]
            if number != 0:
                add_multiple(found, number, powers[first])
    return reduced_layers(found, modulus)


def put_apart(layers, one, other, modulus):
    """Layers with a list in x in the place of x and one in y in that of y; both begin with 0."""
    degree = len(layers) - 1
    ones, others = list_powers(one, modulus), list_powers(other, modulus)
    # halves[i][b] is the multiple of x ** i * y ** b with the second list in its place alone.
    halves = [
        [
            sum([layers[i + j][i] * others[j][b] for j in range(min(b, degree - i) + 1)])
            for b in range(degree + 1)
        ]
        for i in range(degree + 1)
    ]
    found = [
        [sum([ones[i][a] * halves[i][n - a] for i in range(a + 1)]) for a in range(n + 1)]
        for n in range(degree + 1)
    ]
    return reduced_layers(found, modulus)
