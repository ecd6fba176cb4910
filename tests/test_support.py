"""The runner of examples must see wrong values and wrong errors."""

import unittest

from lawseries.base.numbers import binomial, divisors
from tests.support import Examples, example_pairs

NAMES = {"binomial": binomial, "divisors": divisors}


class TestRunner(Examples):
    def test_pairs(self):
        text = "\n>>> a = 1\n>>> a\n1\n>>> b\nraises X\n"
        self.assertEqual(example_pairs(text), [("a = 1", None), ("a", "1"), ("b", "raises X")])

    def test_right_ones_pass(self):
        self.run_example("binomial(6, 2)", "15", NAMES)
        self.run_example("binomial(-1, 2)", "raises InvalidCount(-1)", NAMES)

    def test_wrong_ones_fail(self):
        wrong = [
            ("binomial(6, 2)", "16"),
            ("binomial(6, 2)", "raises InvalidCount"),
            ("binomial(-1, 2)", "raises InvalidCount(2)"),
            ("binomial(-1, 2)", "raises InvalidOperation"),
            ("divisors(4)", "[1, 2, 4]"),
        ]
        for code, expected in wrong:
            with self.subTest(code=code, expected=expected), self.assertRaises(AssertionError):
                self.run_example(code, expected, dict(NAMES))


if __name__ == "__main__":
    unittest.main()
