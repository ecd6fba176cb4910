"""Checks of what is passed that are the same in all stages."""

from lawseries.base.ratios import Ratio, is_short_integer
from lawseries.errors import InvalidModulus, InvalidOperation, InvalidRatio

MAX_MODULUS = 10000


def check_modulus(modulus):
    """Refuses what is neither 0 nor an integer from 2 to MAX_MODULUS."""
    if not is_short_integer(modulus) or modulus < 0 or modulus == 1 or modulus > MAX_MODULUS:
        raise InvalidModulus("0 or an integer from 2 to 10000 is expected")


def check_leading(modulus):
    """Refuses what nothing can be led by: 0, and what is no modulus."""
    check_modulus(modulus)
    if modulus == 0:
        raise InvalidModulus("an integer from 2 to 10000 is expected")


def is_number(value):
    """Whether the value is a ratio, or an integer that may be passed."""
    return isinstance(value, Ratio) or is_short_integer(value)


def check_number(number):
    """Refuses what is neither a ratio nor an integer."""
    if not is_number(number):
        raise InvalidRatio("a ratio or an integer is expected")


def check_multiplier(number, modulus):
    """Refuses what nothing with this modulus can be multiplied by."""
    if not is_number(number) or (modulus != 0 and isinstance(number, Ratio)):
        raise InvalidOperation("a ratio or an integer is expected, with a modulus an integer")


def check_one_modulus(one, other):
    """Refuses two things with unlike moduli."""
    if one.modulus != other.modulus:
        raise InvalidOperation("both must have one modulus")


def check_no_modulus(given):
    """Refuses what has another modulus than 0."""
    if given.modulus != 0:
        raise InvalidOperation("the modulus must be 0")
