"""Laws: double rows F with F(x, 0) = x, F(x, y) = F(y, x) and F(F(x, y), z) = F(x, F(y, z))."""

from lawseries.base.checks import check_modulus, check_one_modulus
from lawseries.base.integers import powers_to
from lawseries.base.numbers import check_count
from lawseries.base.ratios import is_short_integer
from lawseries.double.doubles import Double, across, check_double, made_double, row_double
from lawseries.double.layers import empty_layers
from lawseries.errors import InvalidCount, InvalidLaw, InvalidOperation
from lawseries.law.faults import fault_of
from lawseries.row.rows import Row, check_curve, check_row, is_curve, is_unit, modulus_text

MAX_LAW = 12

_MAX_MULTIPLE = 1000


class Law:
    """A law, which never changes."""

    def __init__(self, double):
        check_double(double)
        if not is_law(double):
            raise InvalidLaw("the double row is no law")
        self._double = double

    @classmethod
    def additive(cls, degree, *, modulus=0):
        """The law x + y."""
        check_count(degree, 2, MAX_LAW)
        check_modulus(modulus)
        return cls(_quadric_double(degree, 0, 0, modulus))

    @classmethod
    def multiplicative(cls, degree, number, *, modulus=0):
        """The law x + y + number x y."""
        check_count(degree, 2, MAX_LAW)
        _check_integer(number)
        check_modulus(modulus)
        return cls(_quadric_double(degree, -number, 0, modulus))

    @classmethod
    def quadric(cls, degree, a, b, *, modulus=0):
        """The law (x + y - a x y) / (1 + b x y)."""
        check_count(degree, 2, MAX_LAW)
        _check_integer(a)
        _check_integer(b)
        check_modulus(modulus)
        return cls(_quadric_double(degree, a, b, modulus))

    @property
    def double(self):
        return self._double

    @property
    def degree(self):
        return self._double.degree

    @property
    def modulus(self):
        return self._double.modulus

    @property
    def is_whole(self):
        return self._double.is_whole

    def sum_of(self, one, other):
        """The sum of two curves."""
        return self._double.put_rows(one, other)

    def against(self, curve):
        """The curve whose sum with a curve is 0."""
        check_curve(curve)
        check_one_modulus(self, curve)
        ahead = curve.cut(min(self.degree, curve.degree))
        found = ahead.scaled(-1)
        # Taking the sum away, with its sign changed instead of what is against it, at least
        # doubles the order of the sum.
        left = self.sum_of(ahead, found)
        while left.order is not None:
            found = self.sum_of(found, left.scaled(-1))
            left = self.sum_of(ahead, found)
        return found

    def multiple(self, number):
        """The k-fold, k being the number."""
        check_count(number, -_MAX_MULTIPLE, _MAX_MULTIPLE)
        power = Row.plain(self.degree, modulus=self.modulus)
        total = power.scaled(0)
        left = abs(number)
        while left > 0:
            if left % 2 == 1:
                total = self.sum_of(total, power)
            left = left // 2
            if left > 0:
                power = self.sum_of(power, power)
        return self.against(total) if number < 0 else total

    def changed(self, row):
        """The law u(F(v(x), v(y))), u being the row, and v what is back of it."""
        check_row(row)
        check_one_modulus(self, row)
        if row.degree < 2 or not is_curve(row) or not is_unit(row.tops[1], row.modulus):
            raise InvalidOperation("a curve with a unit as its entry 1, to 2 or more, is expected")
        ahead = row.cut(min(self.degree, row.degree))
        back = ahead.turned_back()
        return made_law(row_double(ahead, across(self._double, back, back)))

    def led(self, modulus):
        """What the law leaves by a modulus."""
        return made_law(self._double.led(modulus))

    def cut(self, degree):
        check_count(degree, 2, self.degree)
        return made_law(self._double.cut(degree))

    def __eq__(self, other):
        return isinstance(other, Law) and self._double == other._double

    def __str__(self):
        return f"law of degree {self.degree}{modulus_text(self.modulus)}"


def fault(double):
    """The fault of a double row, or None if it is a law."""
    check_double(double)
    if double.degree == 1:
        raise InvalidOperation("the degree must be at least 2")
    return fault_of(double.layers, double.common_bottom, double.modulus)


def is_law(value):
    """Whether the value is a double row that is a law."""
    if not isinstance(value, Double) or value.degree == 1:
        return False
    return fault_of(value.layers, value.common_bottom, value.modulus) is None


def made_law(double):
    """The law of a double row that is known to be one."""
    # Law() asks each double row whether it is a law, which is slow from the degree 4 on.
    made = Law(Double(2, {(1, 0): 1, (0, 1): 1}))
    made._double = double
    return made


def check_law(given):
    """Refuses what is no law."""
    if not isinstance(given, Law):
        raise InvalidLaw("a law is expected")


def check_laws(one, other):
    """Refuses what is no law, and two laws with unlike moduli."""
    check_law(one)
    check_law(other)
    check_one_modulus(one, other)


def _check_integer(number):
    if not is_short_integer(number):
        raise InvalidCount(number)


def _quadric_double(degree, a, b, modulus):
    layers = empty_layers(degree)
    for at, power in enumerate(powers_to(-b, degree // 2)):
        if 2 * at + 1 <= degree:
            layers[2 * at + 1][at] = power
            layers[2 * at + 1][at + 1] = power
        if 2 * at + 2 <= degree:
            layers[2 * at + 2][at + 1] = -a * power
    return made_double(layers, 1, modulus)
