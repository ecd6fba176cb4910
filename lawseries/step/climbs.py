"""Climbs: whole laws that are made one degree after the other, by their steps.

Let F be a whole law of the degree n - 1, with the log l. Whatever law of the degree n it comes
from, its powers from the second one on are known up to the degree n, and with them S, the layer n
of the sum of l(k) * F ** k over all k from 2 to n - 1. A further entry a of the log gives F the
layer n of a * (x ** n + y ** n - (x + y) ** n) - S.
"""

from lawseries.base.integers import over_one_bottom, weights_of
from lawseries.base.numbers import step_divisor
from lawseries.base.ratios import Ratio, made_ratio
from lawseries.double.doubles import made_double, step_layer
from lawseries.double.layers import add_product
from lawseries.law.laws import made_law
from lawseries.row.rows import Row


class Climb:
    """A whole law up to the degree that is reached: its log, and the layers of its powers."""

    def __init__(self, logged, powers):
        self.logged = logged
        # powers[k] has the layers of the power k; for k = 0 there are none.
        self.powers = powers

    def reached(self):
        return len(self.logged) - 1

    def as_log(self):
        return Row(self.logged)

    def as_law(self, modulus):
        """What the law leaves by a modulus; the law itself for the modulus 0."""
        return made_law(made_double(self.powers[1], 1, modulus))


class Ahead:
    """What a climb tells of the degree that comes next."""

    def __init__(self, climb):
        self.degree_ahead = climb.reached() + 1
        self.divisor = step_divisor(self.degree_ahead)
        self.step = step_layer(self.degree_ahead)
        self.weights = weights_of(self.step)
        self.power_layers = _layers_ahead(climb.powers, self.degree_ahead)
        told, bottom = _told_layer(climb.logged, self.power_layers, self.degree_ahead)
        # The layer of the law, - a * divisor * step - S, has integers alone. With the weights it
        # adds up to - a * divisor - the weighted S, which tells a times the divisor, modulo 1.
        weighted = sum([number * weight for number, weight in zip(told, self.weights)])
        least = -weighted % bottom
        self.next_entry = made_ratio(least, bottom * self.divisor)
        self.base = [-(least * own + number) // bottom for own, number in zip(self.step, told)]

    def entry_for(self, step):
        """The further entry of the log for a step."""
        return self.next_entry.plus(made_ratio(step, self.divisor))

    def layer_for(self, step):
        """The further layer of the law for a step."""
        return [number - step * own for number, own in zip(self.base, self.step)]

    def step_to(self, layer):
        """The step for a further layer, up to what the modulus of the layer takes."""
        return sum([
            weight * (number - wanted)
            for weight, number, wanted in zip(self.weights, self.base, layer)
        ])


def first_climb():
    """The climb to the degree 1."""
    return Climb((Ratio(0), Ratio(1)), ((), ([0], [1, 1])))


def climbed(climb, ahead, step):
    """The climb that has a step more."""
    degree = ahead.degree_ahead
    powers = [(), climb.powers[1] + (ahead.layer_for(step),)]
    for many in range(2, degree):
        powers.append(climb.powers[many] + (ahead.power_layers[many],))
    zeros = tuple([[0] * (layer + 1) for layer in range(degree)])
    powers.append(zeros + (ahead.power_layers[degree],))
    return Climb(climb.logged + (ahead.entry_for(step),), tuple(powers))


def climb_by_steps(steps):
    """The climb with some steps."""
    climb = first_climb()
    for step in steps:
        climb = climbed(climb, Ahead(climb), step)
    return climb


def steps_by_log(entries):
    """The steps of the whole law with a log and the climb to it; None for the steps of others."""
    climb, steps = first_climb(), []
    for entry in entries[2:]:
        ahead = Ahead(climb)
        step = entry.minus(ahead.next_entry).times(ahead.divisor)
        if step.bottom != 1:
            return None, climb
        steps.append(step.top)
        climb = climbed(climb, ahead, step.top)
    return tuple(steps), climb


def steps_by_layers(layers, modulus):
    """The steps of the law with a modulus that has some layers."""
    climb, steps = first_climb(), []
    for layer in layers[2:]:
        ahead = Ahead(climb)
        step = ahead.step_to(layer) % modulus
        steps.append(step)
        climb = climbed(climb, ahead, step)
    return tuple(steps)


def _layers_ahead(powers, degree):
    """The layers of a degree of the powers 2, 3, .. of a law known to the degree less 1."""
    found = {}
    for many in range(2, degree + 1):
        layer = [0] * (degree + 1)
        for low in range(1, degree + 2 - many):
            add_product(layer, powers[1][low], powers[many - 1][degree - low])
        found[many] = layer
    return found


def _told_layer(logged, layers, degree):
    """The layer S of the module's text over a bottom, and this bottom."""
    tops, bottom = over_one_bottom(logged)
    told = [0] * (degree + 1)
    for many in range(2, degree):
        told = [old + tops[many] * new for old, new in zip(told, layers[many])]
    return told, bottom
