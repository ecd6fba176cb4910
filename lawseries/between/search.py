"""The search for all rows between two laws with a modulus, one entry after the other."""

from math import comb

from lawseries.double.layers import layers_powers, put_apart
from lawseries.row.rows import made_row


class Search:
    """What the search needs of two laws F and G with one modulus, to a degree."""

    def __init__(self, one, other, degree):
        self.last = degree
        self.ring = one.modulus
        self.first_powers = layers_powers(one.double.layers[:degree + 1], one.modulus)
        self.second_layers = other.double.layers[:degree + 1]

    def fitting(self, entries):
        """The ascending further entries of a row between the laws that is known so far."""
        place = len(entries)
        left = [
            sum([entry * power[place][i] for entry, power in zip(entries, self.first_powers)])
            for i in range(place + 1)
        ]
        curve = entries + (0,)
        right = put_apart(self.second_layers[:place + 1], curve, curve, self.ring)[place]
        # At the ends of the layer both sides are equal whatever the further entry is.
        inner = range(1, place)
        wanted = [right[i] - left[i] for i in inner]
        steps = [comb(place, i) for i in inner]
        return [entry for entry in range(self.ring) if self.is_solved(entry, steps, wanted)]

    def is_solved(self, entry, steps, wanted):
        return all([(entry * step - told) % self.ring == 0 for step, told in zip(steps, wanted)])

    def as_row(self, entries):
        return made_row(entries, 1, self.ring)


def rows_above(search, entries):
    """All rows that begin with some entries, ascending by their tuples of entries."""
    for entry in search.fitting(entries):
        longer = entries + (entry,)
        if len(longer) > search.last:
            yield search.as_row(longer)
        else:
            yield from rows_above(search, longer)
