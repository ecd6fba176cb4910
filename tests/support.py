"""What the tests share: wrong values, checks of errors, and a runner of the document's examples."""

import copy
import unittest

from lawseries import errors
from lawseries.base.ratios import Ratio
from lawseries.cubic.cubics import Cubic
from lawseries.double.doubles import Double
from lawseries.euler.eulers import RULE_PRIMES, Rule
from lawseries.ghost.ghosts import Witt
from lawseries.law.laws import Law
from lawseries.row.rows import Row
from lawseries.use.desk import Desk

# An integer of sixty digits is passed, one of sixty-one is not.
SIXTY = 10 ** 60 - 1
LONG = 10 ** 60


def eight_deep():
    """A value of each kind of bundle, nested as deep as a value may be."""
    return [[(((({"a": [(1,)]},),),),)]]


def long_ratio():
    """A ratio with more than sixty digits in its top and in its bottom, made by the package."""
    return Ratio(SIXTY).over(10 ** 59).times(Ratio(SIXTY - 1).over(10 ** 59))


def other_kinds():
    """Values of each kind that is no integer, no ratio, no string and no tuple."""
    return [
        True, False, None, [], [2], [2, 3], [[2]], {}, {2: 3}, {"a": (2,)}, eight_deep(),
        errors.InvalidCount(2), errors.InvalidRatio("2"), errors.ParseError(2),
    ]


def some_strings():
    return ["", " ", "2", "-2", "1/2", "a", "abc", "A", "~" * 4000]


def some_tuples():
    return [(), (2,), (2, 3), (True,), ("a",), ((2,), [3]), (Ratio(2),)]


def long_integers():
    return [LONG, -LONG, 10 ** 99, 10 ** 100 - 1, 1 - 10 ** 100]


def some_ratios():
    return [Ratio(2), Ratio(0), Ratio(1, 2), Ratio(-3, 4), long_ratio()]


def no_integers():
    """Values that are no integers of at most sixty digits."""
    return other_kinds() + some_strings() + some_tuples() + some_ratios() + long_integers()


def no_ratios():
    """Values that are neither ratios nor integers of at most sixty digits."""
    return other_kinds() + some_strings() + some_tuples() + long_integers()


def no_tuples():
    """Values that are no tuples."""
    return other_kinds() + some_strings() + some_ratios() + long_integers() + [0, 1, 2]


def some_desk():
    """A desk with a law, a row, a pledge and changes to take back and to do again."""
    desk = Desk()
    desk.put("one", Law.multiplicative(3, 1))
    desk.demand(("whole", "one"))
    desk.fold("two", "one", 2)
    desk.undo()
    return desk


def package_objects():
    """An object of each class of the package but Ratio and the errors, of some moduli."""
    return [
        Witt((1, 2, 3)), Cubic(0, -1, 1, 0, 0), Rule(11, {prime: 1 for prime in RULE_PRIMES}),
        Desk(), some_desk(),
        Row((0, 2, 1)), Row((3,)), Row((0, 1, 0), modulus=5), Row((0, 1) + (0,) * 20),
        Double(2, {(1, 0): 1, (0, 1): 1}), Double(2, {(0, 1): 2}, modulus=5), Double(1, {}),
        Law.additive(2), Law.multiplicative(3, 1, modulus=5),
    ]


def no_objects():
    """Values of all kinds that are no objects of the package, and its ratios and errors."""
    return no_integers() + [0, 1, 2, -1, 5]


def others_than(kind):
    """Values of all kinds but one class of the package."""
    return no_objects() + [value for value in package_objects() if not isinstance(value, kind)]


def no_laws():
    """What is no law, each with its error."""
    wrong = others_than(Law) + [Law.additive(3).double, Double(4, {(1, 0): 1, (0, 1): 1, (2, 2): 1})]
    return bad(errors.InvalidLaw, wrong)


def no_rows():
    return bad(errors.InvalidRow, others_than(Row))


def no_curves():
    wrong = [Row((1, 1)), Row((Ratio(1, 2),)), Row((6, 1), modulus=5), Row((1,) * 25)]
    return bad(errors.InvalidCurve, others_than(Row) + wrong)


def no_logs():
    wrong = [Row((0, 1)), Row((0, 2, 1)), Row((1, 1, 1)), Row((0, 1, 0), modulus=5)]
    wrong += [Row((0, 1) + (0,) * 12), Row((0, Ratio(1, 2), 0))]
    return bad(errors.InvalidLog, no_objects() + package_objects() + wrong)


def no_moduli():
    return no_integers() + package_objects() + [1, -1, -2, 10001, 10 ** 9]


def no_counts(low, high):
    """What is no integer from low to high."""
    return no_integers() + package_objects() + [low - 1, high + 1, -10 ** 9, 10 ** 60 - 1]


def no_primes():
    """What is no prime number to 997, each with its error."""
    wrong = no_integers() + package_objects() + [0, 1, -1, -2, -7, 4, 9, 91, 998, 1009, 10 ** 9 + 7]
    return bad(errors.InvalidPrime, wrong)


def bad(error, values):
    return [(error, value) for value in values]


class Checks(unittest.TestCase):
    """A test case that looks at the very class of an error, and at what it keeps."""

    def refused(self, error, call, *arguments):
        """The error of a call, which has just the class `error`, and has changed no argument."""
        before = [told(argument) for argument in arguments]
        with self.assertRaises(error) as caught:
            call(*arguments)
        self.assertIs(type(caught.exception), error)
        self.assertEqual([told(argument) for argument in arguments], before)
        return caught.exception

    def count_refused(self, value, call, *arguments):
        """The call raises InvalidCount and keeps this very value, True not for 1."""
        error = self.refused(errors.InvalidCount, call, *arguments)
        self.assertIs(type(error.value), type(value))
        if isinstance(value, int):
            self.assertEqual(error.value, value)
        else:
            self.assertIs(error.value, value)


    def check_errors(self, call, good, wrong, then=()):
        """All errors of a call.

        `good` are arguments that pass, `wrong` has for each of them a list of pairs of an error
        and a wrong value in its place, `then` are pairs of an error that comes last and arguments.
        """
        call(*good)
        for arguments in [good] + [arguments for _, arguments in then]:
            for place, pairs in enumerate(wrong):
                for error, value in pairs:
                    mixed = list(arguments)
                    mixed[place] = value
                    self.raised(error, value, call, *mixed)
        self.check_two_wrong(call, good, wrong)
        for error, arguments in then:
            self.refused(error, call, *arguments)

    def check_two_wrong(self, call, good, wrong):
        """Of two wrong arguments the first one tells the error."""
        for place, pairs in enumerate(wrong):
            for later in range(place + 1, len(wrong)):
                for error, value in pairs:
                    for _, second in wrong[later][::max(1, len(wrong[later]) // 6)]:
                        mixed = list(good)
                        mixed[place], mixed[later] = value, second
                        self.raised(error, value, call, *mixed)

    def raised(self, error, value, call, *arguments):
        if error is errors.InvalidCount:
            self.count_refused(value, call, *arguments)
        else:
            self.refused(error, call, *arguments)


def told(value):
    """A text that tells a value, to see whether it has changed."""
    if isinstance(value, (tuple, list)):
        return (type(value).__name__, [told(member) for member in value])
    if isinstance(value, dict):
        return ("dict", [(told(key), told(value[key])) for key in value])
    if isinstance(value, (bool, int, str, type(None))):
        return (type(value).__name__, copy.copy(value))
    return (type(value).__name__, told(vars(value)))


class Examples(Checks):
    """Runs examples as they stand in the document: `>>>`, a row, and a value or `raises`."""

    def run_examples(self, text, names):
        names = dict(names)
        for code, expected in example_pairs(text):
            with self.subTest(code=code):
                self.run_example(code, expected, names)

    def run_example(self, code, expected, names):
        if expected is None:
            exec(code, names)
        elif expected.startswith("raises "):
            self.check_raised(code, expected.removeprefix("raises "), names)
        else:
            self.assertEqual(repr(eval(code, names)), expected)

    def check_raised(self, code, expected, names):
        name = expected.partition("(")[0]
        with self.assertRaises(Exception) as caught:
            exec(code, names)
        self.assertIs(type(caught.exception), getattr(errors, name))
        if "(" in expected:
            wanted = eval(expected, dict(vars(errors)))
            self.assertEqual(vars(caught.exception), vars(wanted))


def example_pairs(text):
    """Pairs of a row of code and the row expected behind it, or None."""
    pairs = []
    for row in text.strip().split("\n"):
        if row.startswith(">>> "):
            pairs.append((row[4:], None))
        else:
            code, before = pairs.pop()
            if before is not None:
                raise ValueError(f"two rows behind {code}")
            pairs.append((code, row))
    return pairs
