"""Folds: rows p x + .. that leave a power of x modulo p, each of them the p-fold of one law."""

from lawseries.base.checks import check_no_modulus, check_number
from lawseries.base.integers import power_of
from lawseries.base.numbers import check_count, check_prime
from lawseries.base.ratios import Ratio, is_short_integer, made_ratio, ratio_of
from lawseries.errors import InvalidCount, InvalidOperation, InvalidPrime
from lawseries.law.laws import MAX_LAW, check_law
from lawseries.log.logs import fold_row, law_of_log, log_of
from lawseries.part.parts import powers_within
from lawseries.row.rows import Row, check_row

LOST = 4

_LAST_PRIME = 11
_MAX_LED = 10000


def is_fold(prime, value):
    """Whether the value is a fold of a prime."""
    _check_fold_prime(prime)
    return _height(prime, value) is not None


def plain_fold(prime, degree, height):
    """The fold p x + x ** (p ** height)."""
    _check_fold_prime(prime)
    check_count(degree, 2, MAX_LAW)
    places = powers_within(prime, degree)
    check_count(height, 1, len(places) - 1)
    entries = [0] * (degree + 1)
    entries[1] = prime
    entries[places[height]] = 1
    return Row(tuple(entries))


def fold_height(prime, fold):
    """The height of a fold."""
    _check_fold(prime, fold)
    return _height(prime, fold)


def log_of_fold(prime, fold):
    """The log a with a(f(x)) = p * a(x), f being the fold."""
    _check_fold(prime, fold)
    entries, powers = [Ratio(0), Ratio(1)], [None, fold]
    for n in range(2, fold.degree + 1):
        told = Ratio(0)
        for k in range(1, n):
            told = told.plus(entries[k].times(powers[k].entries[n]))
        entries.append(told.over(made_ratio(prime - power_of(prime, n), 1)))
        powers.append(powers[-1].times(fold))
    return Row(tuple(entries))


def law_of_fold(prime, fold):
    """The law whose p-fold a fold is."""
    return law_of_log(log_of_fold(prime, fold))


def scalar_row(prime, fold, number):
    """The curve with a number at 1 that can be put into the fold from both sides."""
    _check_fold(prime, fold)
    check_number(number)
    if ratio_of(number).bottom % prime == 0:
        raise InvalidOperation("the prime divides the bottom")
    return fold_row(log_of_fold(prime, fold), number)


def row_between_folds(prime, one, other):
    """The starting row t with t(f(x)) = g(t(x)) for two folds f and g."""
    _check_fold_prime(prime)
    check_row(one)
    check_row(other)
    heights = [_known_height(prime, fold) for fold in (one, other)]
    if heights[0] != heights[1]:
        raise InvalidOperation("folds of one height are expected")
    return log_of_fold(prime, other).turned_back().put_in(log_of_fold(prime, one))


def residue_law(prime, fold, power):
    """What the law of a fold leaves modulo a power of the prime."""
    _check_fold(prime, fold)
    if not is_short_integer(power) or not 1 <= power < len(powers_within(prime, _MAX_LED)):
        raise InvalidCount(power)
    return law_of_fold(prime, fold).led(power_of(prime, power))


def told_fold(prime, given):
    """The p-fold of a law if it is a fold, otherwise None."""
    _check_fold_prime(prime)
    check_law(given)
    check_no_modulus(given)
    fold = fold_row(log_of(given), prime)
    return None if _height(prime, fold) is None else fold


def _check_fold_prime(prime):
    check_prime(prime)
    if prime > _LAST_PRIME:
        raise InvalidPrime("a prime number to 11 is expected")


def _check_fold(prime, fold):
    _check_fold_prime(prime)
    check_row(fold)
    _known_height(prime, fold)


def _known_height(prime, fold):
    height = _height(prime, fold)
    if height is None:
        raise InvalidOperation("a fold of the prime is expected")
    return height


def _height(prime, value):
    """The height of a fold, None for what is no fold."""
    if not isinstance(value, Row) or not value.is_whole or not 2 <= value.degree <= MAX_LAW:
        return None
    if value.tops[0] != 0 or value.tops[1] != prime:
        return None
    rests = [top % prime for top in value.tops]
    places = powers_within(prime, value.degree)
    for height in range(1, len(places)):
        wanted = [1 if at == places[height] else 0 for at in range(len(rests))]
        if rests == wanted:
            return height
    return None
