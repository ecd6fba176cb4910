"""Ratios: quotients of integers in lowest terms."""

from math import gcd

from lawseries.errors import InvalidCount, InvalidOperation, InvalidRatio, ParseError

MAX_FIGURES = 60

# The least integer with more than MAX_FIGURES figures.
_TOO_LONG = 10 ** 60


class Ratio:
    """The ratio of two integers, which never changes."""

    def __init__(self, top, bottom=1):
        if not is_short_integer(top):
            raise InvalidCount(top)
        if not is_short_integer(bottom) or bottom == 0:
            raise InvalidCount(bottom)
        self._top, self._bottom = _lowest_terms(top, bottom)

    @classmethod
    def read(cls, text):
        """The ratio whose str the text is."""
        if not isinstance(text, str):
            raise ParseError(0)
        top, slash, bottom = text.partition("/")
        if not slash:
            bottom = "1"
        if not _is_figures(top.removeprefix("-")) or not _is_figures(bottom) or int(bottom) == 0:
            raise ParseError(0)
        ratio = cls(int(top), int(bottom))
        # A ratio has many texts that could be understood, but only one that is its str.
        if str(ratio) != text:
            raise ParseError(0)
        return ratio

    @property
    def top(self):
        return self._top

    @property
    def bottom(self):
        return self._bottom

    @property
    def sign(self):
        return _sign_of(self._top)

    def plus(self, other):
        added = ratio_of(other)
        top = self._top * added.bottom + added.top * self._bottom
        return made_ratio(top, self._bottom * added.bottom)

    def minus(self, other):
        taken = ratio_of(other)
        top = self._top * taken.bottom - taken.top * self._bottom
        return made_ratio(top, self._bottom * taken.bottom)

    def times(self, other):
        factor = ratio_of(other)
        return made_ratio(self._top * factor.top, self._bottom * factor.bottom)

    def over(self, other):
        divisor = ratio_of(other)
        if divisor.top == 0:
            raise InvalidOperation("nothing can be divided by 0")
        return made_ratio(self._top * divisor.bottom, self._bottom * divisor.top)

    def opposite(self):
        return made_ratio(-self._top, self._bottom)

    def compared(self, other):
        """-1, 0 or 1 for a ratio below, equal to or above the other one."""
        against = ratio_of(other)
        return _sign_of(self._top * against.bottom - against.top * self._bottom)

    def __eq__(self, other):
        return isinstance(other, Ratio) and self._top == other._top and self._bottom == other._bottom

    def __str__(self):
        if self._bottom == 1:
            return str(self._top)
        return f"{self._top}/{self._bottom}"


def is_short_integer(value):
    """Whether the value is an integer that may be passed to the package."""
    return isinstance(value, int) and not isinstance(value, bool) and -_TOO_LONG < value < _TOO_LONG


def ratio_of(value):
    """The ratio that a passed ratio or integer is."""
    if isinstance(value, Ratio):
        return value
    if not is_short_integer(value):
        raise InvalidRatio("a ratio, or an integer of at most sixty figures, is expected")
    return Ratio(value)


def made_ratio(top, bottom):
    """The ratio of two integers that the package made itself, and that may be of any length."""
    # Ratio() refuses long integers, so the terms are put into a ratio that is there already.
    lowest_top, lowest_bottom = _lowest_terms(top, bottom)
    made = Ratio(0)
    made._top = lowest_top
    made._bottom = lowest_bottom
    return made


def _lowest_terms(top, bottom):
    divisor = gcd(top, bottom)
    if bottom < 0:
        divisor = -divisor
    return top // divisor, bottom // divisor


def _sign_of(number):
    if number == 0:
        return 0
    return 1 if number > 0 else -1


def _is_figures(text):
    # isdigit alone takes signs of other scripts, too, and int refuses some of them.
    return text.isascii() and text.isdigit() and len(text) <= MAX_FIGURES
