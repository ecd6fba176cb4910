"""Rules: integers a(n) that are told by those at primes, by Euler's rules, and eta products."""

from lawseries.base.integers import powers_to
from lawseries.base.numbers import check_count, prime_powers
from lawseries.base.ratios import is_short_integer, made_ratio
from lawseries.cubic.cubics import Cubic
from lawseries.errors import InvalidCubic, InvalidOperation, InvalidPrime
from lawseries.law.laws import MAX_LAW
from lawseries.log.logs import law_of_log
from lawseries.row.rows import Row, made_row

MAX_RULE = 24
MAX_LEVEL = 10 ** 9
RULE_PRIMES = (2, 3, 5, 7, 11, 13, 17, 19, 23)

_MAX_FACTORS = 8


class Rule:
    """A rule, which never changes."""

    def __init__(self, level, numbers):
        check_count(level, 1, MAX_LEVEL)
        if not _are_numbers(numbers):
            raise InvalidOperation("a dict from the nine primes to integers is expected")
        self._level = level
        self._numbers = {prime: numbers[prime] for prime in RULE_PRIMES}
        self._told_row = _row_by_rules(level, self._numbers)

    @property
    def level(self):
        return self._level

    @property
    def numbers(self):
        return dict(self._numbers)

    def is_good(self, prime):
        """Whether a prime does not divide the level."""
        _check_rule_prime(prime)
        return self._level % prime != 0

    def told_type(self, prime):
        """The first two integers of a type of the log at a prime; those behind them are 0."""
        _check_rule_prime(prime)
        return -self._numbers[prime], _good_number(self._level, prime)

    def number_at(self, number):
        check_count(number, 1, MAX_RULE)
        return self._told_row[number]

    def row_to(self, degree):
        """The row with the integers of the rule from the index 1 on."""
        check_count(degree, 1, MAX_RULE)
        return made_row(self._told_row[:degree + 1], 1, 0)

    def log_to(self, degree):
        check_count(degree, 2, MAX_LAW)
        entries = [made_ratio(self._told_row[n], n) for n in range(1, degree + 1)]
        return Row((0,) + tuple(entries))

    def law_to(self, degree):
        return law_of_log(self.log_to(degree))

    def height_at(self, prime, degree):
        """The height modulo a prime of the law to a degree, or None if it shows none."""
        _check_rule_prime(prime)
        check_count(degree, 2, MAX_LAW)
        if self._numbers[prime] % prime != 0:
            return 1 if prime <= degree else None
        return 2 if self._level % prime != 0 and prime * prime <= degree else None

    def __eq__(self, other):
        return (
            isinstance(other, Rule) and self._numbers == other._numbers
            and _good_primes(self._level) == _good_primes(other._level)
        )

    def __str__(self):
        return f"rule of level {self._level}"


def rule_fault(level, row):
    """The least n at which a tuple does not go by the rules of a level, or None."""
    check_count(level, 1, MAX_LEVEL)
    if not _is_told(row):
        raise InvalidOperation("a tuple of 1 to 24 integers is expected")
    return _fault_of(level, row)


def is_rule_row(level, value):
    """Whether the value is a tuple of 1 to 24 integers that goes by the rules of a level."""
    check_count(level, 1, MAX_LEVEL)
    return _is_told(value) and _fault_of(level, value) is None


def cubic_rule(cubic):
    """The rule of a cubic."""
    if not isinstance(cubic, Cubic):
        raise InvalidCubic("a cubic is expected")
    level = 1
    for prime in RULE_PRIMES:
        if cubic.discriminant % prime == 0:
            level = level * prime
    return Rule(level, {number: cubic.trace_at(number) for number in RULE_PRIMES})


def eta_entries(table, size):
    """The entries of an eta product, from 0 to a size."""
    if not _is_eta_table(table):
        raise InvalidOperation("a dict from factors to exponents that add up is expected")
    check_count(size, 1, MAX_RULE)
    ahead = sum([k * table[k] for k in table]) // 24
    found = [1] + [0] * size
    for k in table:
        for step in range(k, size + 1, k):
            found = _times_powers(found, step, table[k])
    return tuple(([0] * min(ahead, size + 1) + found)[:size + 1])


def _are_numbers(value):
    if not isinstance(value, dict) or len(value) != len(RULE_PRIMES):
        return False
    return all([prime in value and is_short_integer(value[prime]) for prime in RULE_PRIMES])


def _check_rule_prime(prime):
    if not is_short_integer(prime) or prime not in RULE_PRIMES:
        raise InvalidPrime("a prime number to 23 is expected")


def _good_number(level, prime):
    return 0 if level % prime == 0 else 1


def _good_primes(level):
    return [prime for prime in RULE_PRIMES if level % prime != 0]


def _by_rules(level, found, n):
    """What the rules make at n, no prime and above 1, of the integers ahead of it."""
    factors = prime_powers(n)
    if len(factors) > 1:
        number = 1
        for prime, exponent in factors.items():
            number = number * found[powers_to(prime, exponent)[-1]]
        return number
    prime = list(factors)[0]
    before = found[n // (prime * prime)]
    return found[prime] * found[n // prime] - _good_number(level, prime) * prime * before


def _row_by_rules(level, numbers):
    """The tuple with 0 at 0, and the integers of a rule behind it."""
    found = [0, 1]
    for n in range(2, MAX_RULE + 1):
        found.append(numbers[n] if n in RULE_PRIMES else _by_rules(level, found, n))
    return tuple(found)


def _is_told(value):
    if not isinstance(value, tuple) or not 1 <= len(value) <= MAX_RULE:
        return False
    return all([is_short_integer(number) for number in value])


def _fault_of(level, row):
    if row[0] != 1:
        return 1
    told = (0,) + row
    for n in range(2, len(told)):
        if n not in RULE_PRIMES and told[n] != _by_rules(level, told, n):
            return n
    return None


def _is_eta_table(value):
    if not isinstance(value, dict) or not 1 <= len(value) <= _MAX_FACTORS:
        return False
    if not all([_is_within(k, 1) and _is_within(value[k], -MAX_RULE) for k in value]):
        return False
    total = sum([k * value[k] for k in value])
    return all([value[k] != 0 for k in value]) and total >= 0 and total % 24 == 0


def _is_within(value, low):
    return is_short_integer(value) and low <= value <= MAX_RULE


def _times_powers(numbers, step, exponent):
    """A list times the power of 1 - q ** step with an exponent, which may be below 0."""
    found = numbers
    for _ in range(abs(exponent)):
        found = _times_one(found, step) if exponent > 0 else _divided_by_one(found, step)
    return found


def _times_one(numbers, step):
    return [
        number - numbers[at - step] if at >= step else number for at, number in enumerate(numbers)
    ]


def _divided_by_one(numbers, step):
    found = []
    for at, number in enumerate(numbers):
        found.append(number + found[at - step] if at >= step else number)
    return found
