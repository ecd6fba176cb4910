"""Faults: why layers over a common bottom are no law."""

from lawseries.base.integers import powers_to, rest_of
from lawseries.double.layers import layers_powers

# Up to this degree x + y + .. with F(x, y) = F(y, x) always is a law.
FREE_DEGREE = 3


def fault_of(layers, bottom, modulus):
    """The fault of layers, or None."""
    place = _plain_place(layers, bottom)
    if place is not None:
        return ("plain", place)
    place = _swap_place(layers)
    if place is not None:
        return ("swap", place)
    if len(layers) - 1 <= FREE_DEGREE:
        return None
    place = _group_place(layers, bottom, modulus)
    return None if place is None else ("group", place)


def _plain_place(layers, bottom):
    for n, layer in enumerate(layers):
        wanted = bottom if n == 1 else 0
        if layer[0] != wanted:
            return (0, n)
        if layer[n] != wanted:
            return (n, 0)
    return None


def _swap_place(layers):
    for n, layer in enumerate(layers):
        for i in range((n + 1) // 2):
            if layer[i] != layer[n - i]:
                return (i, n - i)
    return None


def _group_place(layers, bottom, modulus):
    """The first (i, j, k) at which F(F(x, y), z) and F(x, F(y, z)) are unlike, or None."""
    degree = len(layers) - 1
    powers = _powers_over_one_bottom(layers, bottom, modulus)
    for n in range(FREE_DEGREE + 1, degree + 1):
        for i in range(n + 1):
            for j in range(n + 1 - i):
                k = n - i - j
                left = sum([layers[s + k][s] * powers[s][i + j][i] for s in range(i + j + 1)])
                right = sum([layers[i + s][i] * powers[s][j + k][j] for s in range(j + k + 1)])
                if rest_of(left - right, modulus) != 0:
                    return (i, j, k)
    return None


def _powers_over_one_bottom(layers, bottom, modulus):
    """The powers of F, all of them over the last power of the bottom."""
    powers = layers_powers(layers, modulus)
    weights = powers_to(bottom, len(powers) - 1)[::-1]
    return [
        [[top * weight for top in layer] for layer in power]
        for power, weight in zip(powers, weights)
    ]
