"""Rows: power series in x as far as they are known."""

from math import factorial, gcd

from lawseries.base.checks import (
    check_leading, check_modulus, check_multiplier, check_no_modulus, check_one_modulus, is_number,
)
from lawseries.base.integers import (
    inverse, over_one_bottom, power_of, powers_to, reduced, shared_divisor,
)
from lawseries.base.numbers import check_count
from lawseries.base.ratios import Ratio, made_ratio, ratio_of
from lawseries.errors import InvalidCurve, InvalidOperation, InvalidRow
from lawseries.row.lists import list_back, list_product, list_put, list_reciprocal

MAX_ROW = 24


class Row:
    """A row, which never changes.

    For the modulus 0 its entries are kept twice: as ratios, and as integers, the tops, over their
    least common bottom, with which all reckoning is done. For a modulus other than 0 the tops are
    the residues, and the common bottom is 1.
    """

    def __init__(self, entries, *, modulus=0):
        if not _are_entries(entries):
            raise InvalidRow("a tuple of 1 to 25 ratios and integers is expected")
        check_modulus(modulus)
        ratios = [ratio_of(entry) for entry in entries]
        if modulus == 0:
            tops, self._bottom = over_one_bottom(ratios)
            self._tops = tuple(tops)
            self._entries = tuple(ratios)
        elif any([isinstance(entry, Ratio) for entry in entries]):
            raise InvalidRow("with a modulus the entries are integers")
        else:
            self._bottom = 1
            self._tops = tuple(reduced(entries, modulus))
            self._entries = self._tops
        self._modulus = modulus

    @classmethod
    def plain(cls, degree, *, modulus=0):
        """The row x."""
        check_count(degree, 1, MAX_ROW)
        check_modulus(modulus)
        return cls((0, 1) + (0,) * (degree - 1), modulus=modulus)

    @property
    def entries(self):
        return self._entries

    @property
    def tops(self):
        """The entries as integers over the common bottom."""
        return self._tops

    @property
    def common_bottom(self):
        return self._bottom

    @property
    def degree(self):
        return len(self._tops) - 1

    @property
    def modulus(self):
        return self._modulus

    @property
    def order(self):
        """The least index of an entry other than 0, or None."""
        for index, top in enumerate(self._tops):
            if top != 0:
                return index
        return None

    @property
    def is_whole(self):
        return self._modulus == 0 and self._bottom == 1

    def at(self, index):
        """The entry with an index."""
        check_count(index, 0, self.degree)
        return self._entries[index]

    def whole(self):
        """The entries as integers."""
        if self._bottom != 1:
            raise InvalidOperation("the row is not whole")
        return self._tops

    def plus(self, other):
        check_together(self, other)
        ours, theirs = self._bottom, other.common_bottom
        tops = [one * theirs + two * ours for one, two in zip(self._tops, other.tops)]
        return made_row(tops, ours * theirs, self._modulus)

    def minus(self, other):
        check_together(self, other)
        return self.plus(other.scaled(-1))

    def times(self, other):
        check_together(self, other)
        tops = list_product(self._tops, other.tops, self._modulus)
        return made_row(tops, self._bottom * other.common_bottom, self._modulus)

    def scaled(self, number):
        """The row multiplied by a number."""
        check_multiplier(number, self._modulus)
        ratio = ratio_of(number)
        tops = [top * ratio.top for top in self._tops]
        return made_row(tops, self._bottom * ratio.bottom, self._modulus)

    def raised(self, many):
        """The power with an exponent, which may be below 0."""
        check_count(many, -MAX_ROW, MAX_ROW)
        base = self if many >= 0 else self.reciprocal()
        power = made_row([1] + [0] * self.degree, 1, self._modulus)
        for _ in range(abs(many)):
            power = power.times(base)
        return power

    def reciprocal(self):
        """1 divided by the row."""
        first, last = self._tops[0], self.degree
        if not is_unit(first, self._modulus):
            raise InvalidOperation("the entry 0 is no unit")
        # With first * x in the place of x and divided by its entry 0, the row has integers alone.
        firsts = powers_to(first, last + 1)
        scaled = [1] + [top * power for top, power in zip(self._tops[1:], firsts)]
        told = list_reciprocal(reduced(scaled, self._modulus), self._modulus)
        tops = [self._bottom * top * firsts[last - at] for at, top in enumerate(told)]
        return made_row(tops, firsts[last + 1], self._modulus)

    def put_in(self, other):
        """This row of another one."""
        check_together(self, other)
        if other.tops[0] != 0:
            raise InvalidOperation("a curve is expected")
        tops = list_put(self._tops, other.tops, other.common_bottom, self._modulus)
        bottom = self._bottom * power_of(other.common_bottom, len(tops) - 1)
        return made_row(tops, bottom, self._modulus)

    def turned_back(self):
        """What is back of the row."""
        last = self.degree
        if last == 0 or self._tops[0] != 0 or not is_unit(self._tops[1], self._modulus):
            raise InvalidOperation("a curve whose entry 1 is a unit is expected")
        # With first * x in the place of x and divided by its new entry 1, the row has integers
        # alone and begins with x; what is back of it has to be stretched, too.
        firsts, bottoms = powers_to(self._tops[1], 2 * last - 1), powers_to(self._bottom, last)
        scaled = [0, 1] + [top * power for top, power in zip(self._tops[2:], firsts)]
        told = list_back(reduced(scaled, self._modulus), self._modulus)
        tops = [top * bottoms[at] * firsts[2 * (last - at)] for at, top in enumerate(told) if at > 0]
        return made_row([0] + tops, firsts[2 * last - 1], self._modulus)

    def derived(self):
        """The derivative."""
        if self.degree == 0:
            raise InvalidOperation("the degree must be at least 1")
        tops = [at * top for at, top in enumerate(self._tops)]
        return made_row(tops[1:], self._bottom, self._modulus)

    def summed_up(self):
        """The row without a constant entry whose derivative this one is."""
        check_no_modulus(self)
        if self.degree == MAX_ROW:
            raise InvalidOperation("the degree must be less than 24")
        many = factorial(self.degree + 1)
        tops = [top * (many // (at + 1)) for at, top in enumerate(self._tops)]
        return made_row([0] + tops, self._bottom * many, 0)

    def cut(self, degree):
        check_count(degree, 0, self.degree)
        return made_row(self._tops[:degree + 1], self._bottom, self._modulus)

    def spread(self, times):
        """The row with a power of x in the place of x."""
        check_count(times, 1, MAX_ROW)
        places = range(len(self._tops))
        tops = [self._tops[at // times] if at % times == 0 else 0 for at in places]
        return made_row(tops, self._bottom, self._modulus)

    def led(self, modulus):
        """What the row leaves by a modulus."""
        check_leading(modulus)
        check_led(self, modulus)
        return made_row(self._tops, self._bottom, modulus)

    def __eq__(self, other):
        return (
            isinstance(other, Row) and self._modulus == other._modulus
            and self._tops == other._tops and self._bottom == other._bottom
        )

    def __len__(self):
        return len(self._tops)

    def __iter__(self):
        return iter(self._entries)

    def __str__(self):
        return f"{_text_of(self._entries)} to {len(self._tops) - 1}{modulus_text(self._modulus)}"


def exp_of_row(row):
    """The exp of a curve."""
    check_row(row)
    if row.modulus != 0 or row.tops[0] != 0:
        raise InvalidOperation("a curve with the modulus 0 is expected")
    many = factorial(row.degree)
    tops = [many // factorial(at) for at in range(row.degree + 1)]
    return made_row(tops, many, 0).put_in(row)


def log_of_row(row):
    """The log of a row whose entry 0 is 1."""
    check_row(row)
    if row.modulus != 0 or row.tops[0] != row.common_bottom:
        raise InvalidOperation("a row with the modulus 0 and the entry 0 equal to 1 is expected")
    many = factorial(row.degree)
    tops = [many // at if at % 2 == 1 else -many // at for at in range(1, row.degree + 1)]
    above = made_row((0,) + row.tops[1:], row.common_bottom, 0)
    return made_row([0] + tops, many, 0).put_in(above)


def power_entry(row, many, index):
    """The entry with an index of the power `many` of what is back of a row."""
    check_row(row)
    check_count(many, 1, MAX_ROW)
    check_count(index, 1, row.degree)
    if row.modulus != 0 or row.tops[0] != 0 or row.tops[1] == 0:
        raise InvalidOperation("a curve with the modulus 0 and an entry 1 is expected")
    if many > index:
        return Ratio(0)
    left = index - many
    rest = made_row(row.tops[1:left + 2], row.common_bottom, 0)
    return rest.raised(-index).at(left).times(Ratio(many, index))


def made_row(tops, bottom, modulus):
    """The row of some integers over a bottom other than 0, with a modulus over a unit.

    Unlike those of Row(), the integers may be of any length: the package made them itself.
    """
    made = Row((0,))
    if modulus == 0:
        divisor = shared_divisor(tops, bottom) if bottom > 0 else -shared_divisor(tops, -bottom)
        made._bottom = bottom // divisor
        made._tops = tuple([top // divisor for top in tops])
        made._entries = tuple([made_ratio(top, made._bottom) for top in made._tops])
    else:
        unit = 1 if bottom == 1 else inverse(bottom, modulus)
        made._tops = tuple([top * unit % modulus for top in tops])
        made._entries = made._tops
    made._modulus = modulus
    return made


def is_curve(value):
    """Whether the value is a row without a constant entry."""
    return isinstance(value, Row) and value.tops[0] == 0


def is_unit(number, modulus):
    """Whether something can be divided by a number, which for the modulus 0 is the top of one."""
    return number != 0 if modulus == 0 else gcd(number, modulus) == 1


def check_row(row):
    """Refuses what is no row."""
    if not isinstance(row, Row):
        raise InvalidRow("a row is expected")


def check_curve(curve):
    """Refuses what is no curve."""
    if not is_curve(curve):
        raise InvalidCurve("a row without a constant entry is expected")


def check_together(one, other):
    """Refuses what is no row, and a row of another modulus."""
    check_row(one)
    check_row(other)
    check_one_modulus(one, other)


def check_led(given, modulus):
    """Refuses a modulus by which something with a modulus and a common bottom cannot be led."""
    if given.modulus % modulus != 0:
        raise InvalidOperation("the modulus does not divide the one that is there")
    if gcd(given.common_bottom, modulus) != 1:
        raise InvalidOperation("a bottom has a common divisor with the modulus")


def modulus_text(modulus):
    """What stands behind the text of something with a modulus."""
    return "" if modulus == 0 else f" modulo {modulus}"


def _are_entries(value):
    if not isinstance(value, tuple) or not 1 <= len(value) <= MAX_ROW + 1:
        return False
    return all([is_number(entry) for entry in value])


def _text_of(entries):
    texts = [str(entry) for entry in entries]
    terms = [_term_of(text, index) for index, text in enumerate(texts) if text != "0"]
    if not terms:
        return "0"
    return terms[0] + "".join([_joined_term(term) for term in terms[1:]])


def _term_of(text, index):
    if index == 0:
        return text
    power = "x" if index == 1 else f"x^{index}"
    if text in ("1", "-1"):
        return text[:-1] + power
    return f"{text}*{power}"


def _joined_term(term):
    return f" - {term[1:]}" if term.startswith("-") else f" + {term}"
