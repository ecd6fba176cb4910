"""The examples of the document, as they stand."""

import unittest

from lawseries.base import numbers, ratios
from tests.support import Examples

STAGE_1 = """
>>> half, third = Ratio(2, -4), Ratio(1, 3)
>>> [str(half), str(half.plus(third)), str(half.times(6)), str(third.over(half)), half.compared(third), half.sign, Ratio.read("-1/2") == half, Ratio(3) == 3]
['-1/2', '-1/6', '-3', '-2/3', -1, -1, True, False]
>>> [is_prime(91), is_name("Ab"), divisors(12), prime_powers(360), common_divisor((12, -18, 0)), [moebius(1), moebius(12), moebius(30)]]
[False, False, (1, 2, 3, 4, 6, 12), {2: 3, 3: 2, 5: 1}, 6, [1, 0, -1]]
>>> [valuation(2, Ratio(3, 8)), valuation(3, -18), binomial(6, 2), binomial(2, 3), step_divisor(8), step_divisor(6), partitions_of(0), partitions_of(10)]
[-3, 2, 15, 0, 2, 1, 1, 42]
>>> valuation(2, 0)
raises InvalidOperation
"""


class TestExamples(Examples):
    def test_stage_1(self):
        self.run_examples(STAGE_1, {**vars(ratios), **vars(numbers)})


if __name__ == "__main__":
    unittest.main()
