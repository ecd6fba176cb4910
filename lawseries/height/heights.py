"""Heights: what the p-fold of a law modulo a prime p begins with."""

from lawseries.base.checks import check_one_modulus
from lawseries.base.integers import power_of
from lawseries.base.numbers import check_count, check_prime, is_prime
from lawseries.errors import InvalidOperation
from lawseries.law.laws import MAX_LAW, Law, check_law
from lawseries.log.logs import law_of_log
from lawseries.part.parts import log_of_parts, powers_within
from lawseries.row.rows import made_row


def height_of(given):
    """The height of a law, or None."""
    _check_prime_law(given)
    height, _ = _height_and_fold(given)
    return height


def head_of(given):
    """The head of a law, or None."""
    _check_prime_law(given)
    height, fold = _height_and_fold(given)
    return None if height is None else fold.at(fold.order)


def inner_row(given):
    """The inner row of a law, or None."""
    _check_prime_law(given)
    height, fold = _height_and_fold(given)
    return None if height is None else made_row(fold.tops[::fold.order], 1, fold.modulus)


def law_of_height(prime, degree, height, *, head=1):
    """A law modulo a prime with a height and a head; x + y for the height None."""
    check_prime(prime)
    check_count(degree, 2, MAX_LAW)
    greatest = _greatest_height(prime, degree)
    if height is not None:
        check_count(height, 1, greatest)
    check_count(head, 1, prime - 1)
    if height is None:
        return Law.additive(degree, modulus=prime)
    parts = [head if k == height else 0 for k in range(1, greatest + 1)]
    return law_of_log(log_of_parts(prime, tuple(parts), degree)).led(prime)


def height_counts(prime, degree):
    """How many laws modulo a prime have the heights 1, 2, .., and last, how many have none."""
    check_prime(prime)
    check_count(degree, 2, MAX_LAW)
    greatest = _greatest_height(prime, degree)
    heights = range(1, greatest + 1)
    counts = [(prime - 1) * power_of(prime, degree - 1 - height) for height in heights]
    return tuple(counts) + (power_of(prime, degree - 1 - greatest),)


def zero_bound(one, other):
    """The index to which all rows between two laws of unlike heights are 0, or None."""
    check_law(one)
    check_law(other)
    check_one_modulus(one, other)
    _check_prime_law(one)
    heights = [_height_and_fold(given)[0] for given in (one, other)]
    if heights[0] == heights[1]:
        return None
    lesser = min([height for height in heights if height is not None])
    return min(one.degree, other.degree) // power_of(one.modulus, lesser)


def _check_prime_law(given):
    check_law(given)
    if not is_prime(given.modulus):
        raise InvalidOperation("a law with a prime number as its modulus is expected")


def _greatest_height(prime, degree):
    return len(powers_within(prime, degree)) - 1


def _height_and_fold(given):
    """The height of a law and its p-fold, or twice None."""
    prime = given.modulus
    # A first entry at a power of the prime is out of sight, and p may be too great for a fold.
    if prime > given.degree:
        return None, None
    fold = given.multiple(prime)
    if fold.order is None:
        return None, None
    return powers_within(prime, given.degree).index(fold.order), fold
