"""The errors of the package."""


class SeriesError(ValueError):
    """What all errors about objects of the package are."""


class InvalidRatio(SeriesError):
    """No ratio and no integer."""


class InvalidModulus(SeriesError):
    """No modulus."""


class InvalidRow(SeriesError):
    """No row, or nothing that a row can be made of."""


class InvalidDouble(SeriesError):
    """No double row, or nothing that a double row can be made of."""


class InvalidLaw(SeriesError):
    """No law."""


class InvalidLog(SeriesError):
    """No log."""


class InvalidSteps(SeriesError):
    """No steps."""


class InvalidPrime(SeriesError):
    """No prime number within the bounds."""


class InvalidParts(SeriesError):
    """No parts."""


class InvalidCurve(SeriesError):
    """No curve."""


class InvalidGhosts(SeriesError):
    """No ghosts."""


class InvalidCubic(SeriesError):
    """No cubic."""


class InvalidGenus(SeriesError):
    """No numbers or tables of a genus."""


class InvalidPledge(SeriesError):
    """No pledge."""


class InvalidOperation(SeriesError):
    """Valid values for which the operation is not defined."""


class ParseError(SeriesError):
    """A text that cannot be read, and the spot at which it fails."""

    def __init__(self, spot):
        self.spot = spot


# The errors below make no message of what they keep: it may be any value,
# also an integer that is too long for Python to write out.
class InvalidCount(IndexError):
    """A value that is no integer within the bounds."""

    def __init__(self, value):
        self.value = value


class UnknownName(KeyError):
    """A name that nothing has."""

    def __init__(self, name):
        self.name = name


class NothingToUndo(RuntimeError):
    """More changes wanted back than there are."""

    def __init__(self, wanted):
        self.wanted = wanted


class TooMany(OverflowError):
    """More than a limit allows."""

    def __init__(self, limit):
        self.limit = limit


class Refused(ArithmeticError):
    """A change that would break what was promised."""

    def __init__(self, reason):
        self.reason = reason
