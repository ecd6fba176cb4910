"""Steps: the integers, or the residues, that tell a law."""

from lawseries.base.checks import check_leading, check_modulus, check_multiplier
from lawseries.base.integers import power_of, weights_of
from lawseries.base.numbers import check_count
from lawseries.base.ratios import is_short_integer, made_ratio
from lawseries.double.doubles import step_double, step_layer
from lawseries.errors import InvalidCount, InvalidOperation, InvalidSteps, TooMany
from lawseries.law.laws import MAX_LAW, Law, check_law, check_laws, made_law
from lawseries.log.logs import check_log, log_of
from lawseries.step.climbs import (
    Ahead, climb_by_steps, climbed, first_climb, steps_by_layers, steps_by_log,
)

MAX_LISTED = 20000


def next_entry(log):
    """The least further entry of at least 0 for which the law of a log stays whole."""
    check_log(log)
    steps, climb = steps_by_log(log.entries)
    if steps is None or log.degree == MAX_LAW:
        raise InvalidOperation("the log of a whole law of a degree below 12 is expected")
    return Ahead(climb).next_entry


def steps_of(given):
    """The steps of a law."""
    check_law(given)
    _check_stepped(given)
    if given.modulus != 0:
        return steps_by_layers(given.double.layers, given.modulus)
    steps, _ = steps_by_log(log_of(given).entries)
    return steps


def law_of_steps(steps, *, modulus=0):
    """The law with some steps."""
    _check_steps(steps)
    check_modulus(modulus)
    if modulus != 0 and not all([0 <= step < modulus for step in steps]):
        raise InvalidSteps("residues of the modulus are expected")
    return climb_by_steps(steps).as_law(modulus)


def log_of_steps(steps):
    """The log of the whole law with some steps."""
    _check_steps(steps)
    return climb_by_steps(steps).as_log()


def lift_of(given):
    """The whole law with the steps of a law that has a modulus."""
    _check_residue_law(given)
    return climb_by_steps(steps_of(given)).as_law(0)


def is_lift(given, value):
    """Whether the value is a whole law of its degree that leaves a law."""
    _check_residue_law(given)
    if not isinstance(value, Law) or not value.is_whole or value.degree != given.degree:
        return False
    return value.led(given.modulus) == given


def extended(given, number):
    """The law of a degree more by 1 with a further step."""
    check_law(given)
    if not is_short_integer(number) or (given.modulus != 0 and not 0 <= number < given.modulus):
        raise InvalidCount(number)
    _check_stepped(given)
    if given.degree == MAX_LAW:
        raise InvalidOperation("a law of the degree 12 cannot be extended")
    return climb_by_steps(steps_of(given) + (number,)).as_law(given.modulus)


def moved_by(given, number):
    """The law and a number times the step of its degree."""
    check_law(given)
    check_multiplier(number, given.modulus)
    step = step_double(given.degree, given.degree)
    if given.modulus != 0:
        step = step.led(given.modulus)
    return made_law(given.double.plus(step.scaled(number)))


def first_difference(one, other):
    """The pair of the least degree up to which two laws differ, and of how many steps C_n."""
    check_laws(one, other)
    degree = min(one.degree, other.degree)
    double = other.double.cut(degree).minus(one.double.cut(degree))
    for n, layer in enumerate(double.layers):
        if any(layer):
            weights = weights_of(step_layer(n))
            number = sum([weight * top for weight, top in zip(weights, layer)])
            if double.modulus == 0:
                return (n, made_ratio(number, double.common_bottom))
            return (n, number % double.modulus)
    return None


def laws_modulo(degree, modulus):
    """All laws of a degree with a modulus, ascending by their steps."""
    check_count(degree, 2, MAX_LAW)
    check_leading(modulus)
    if power_of(modulus, degree - 1) > MAX_LISTED:
        raise TooMany(MAX_LISTED)
    climb = first_climb()
    yield from _laws_above(climb, degree, modulus)


def _laws_above(climb, degree, modulus):
    ahead = Ahead(climb)
    for step in range(modulus):
        higher = climbed(climb, ahead, step)
        if higher.reached() == degree:
            yield higher.as_law(modulus)
        else:
            yield from _laws_above(higher, degree, modulus)


def _check_steps(steps):
    if not isinstance(steps, tuple) or not 1 <= len(steps) < MAX_LAW:
        raise InvalidSteps("a tuple of 1 to 11 integers is expected")
    if not all([is_short_integer(step) for step in steps]):
        raise InvalidSteps("a tuple of 1 to 11 integers is expected")


def _check_stepped(given):
    if given.modulus == 0 and not given.is_whole:
        raise InvalidOperation("a law with the modulus 0 must be whole")


def _check_residue_law(given):
    check_law(given)
    if given.modulus == 0:
        raise InvalidOperation("a law with another modulus than 0 is expected")
