"""The examples of the document, as they stand."""

import unittest

from lawseries.base import numbers, ratios
from lawseries.between import rows_between
from lawseries.double import doubles
from lawseries.height import heights
from lawseries.law import laws
from lawseries.log import logs
from lawseries.part import parts
from lawseries.row import rows
from lawseries.step import steps
from tests.support import Examples

# The values that stand ahead of all examples.
VALUES = """
>>> TIMES = Law.multiplicative(6, 1)
>>> TIMES_FIVE = Law.multiplicative(6, 1, modulus=5)
>>> SOME = law_of_steps((1, 0, -1, 2))
"""

STAGE_1 = """
>>> half, third = Ratio(2, -4), Ratio(1, 3)
>>> [str(half), str(half.plus(third)), str(half.times(6)), str(third.over(half)), half.compared(third), half.sign, Ratio.read("-1/2") == half, Ratio(3) == 3]
['-1/2', '-1/6', '-3', '-2/3', -1, -1, True, False]
>>> [is_prime(91), is_name("Ab"), divisors(12), prime_powers(360), common_divisor((12, -18, 0)), [moebius(1), moebius(12), moebius(30)]]
[False, False, (1, 2, 3, 4, 6, 12), {2: 3, 3: 2, 5: 1}, 6, [1, 0, -1]]
>>> [valuation(2, Ratio(3, 8)), valuation(3, -18), binomial(6, 2), binomial(2, 3), step_divisor(8), step_divisor(6), partitions_of(0), partitions_of(10)]
[-3, 2, 15, 0, 2, 1, 1, 42]
>>> valuation(2, 0)
raises InvalidOperation
"""

STAGE_2 = """
>>> LOG = Row((0, 1, Ratio(-1, 2), Ratio(1, 3)))
>>> [str(LOG), LOG.degree, LOG.order, LOG.is_whole, str(LOG.turned_back()), str(LOG.put_in(LOG.turned_back())), str(LOG.derived())]
['x - 1/2*x^2 + 1/3*x^3 to 3', 3, 1, False, 'x + 1/2*x^2 + 1/6*x^3 to 3', 'x to 3', '1 - x + x^2 to 2']
>>> [str(Row((0, 1, 1, 0)).led(5)), Row((1, 1, 1, 1)).reciprocal().whole(), str(Row((0, 1, 4), modulus=5).raised(2)), Row((0, 2, 1), modulus=9).turned_back().entries]
['x + x^2 to 3 modulo 5', (1, -1, 0, 0), 'x^2 to 2 modulo 5', (0, 5, 1)]
>>> [str(exp_of_row(Row((0, 1, 0, 0)))), log_of_row(Row((1, 1, 0, 0))) == LOG, str(power_entry(LOG, 2, 3)), str(LOG.spread(2)), str(Row((3,)))]
['1 + x + 1/2*x^2 + 1/6*x^3 to 3', True, '1', 'x^2 to 3', '3 to 0']
>>> LOG.led(6)
raises InvalidOperation
"""

STAGE_3 = """
>>> F = Double(3, {(1, 0): 1, (0, 1): 1, (1, 1): 1})
>>> [F.is_even, len(F), list(F), F.at(1, 1).top, F.line(1) == Row((1, 1, 0)), str(F.put_rows(Row.plain(3), Row((0, 0, 1, 0)))), str(F)]
[True, 3, [(0, 1), (1, 0), (1, 1)], 1, True, 'x + x^2 + x^3 to 3', 'double row of degree 3']
>>> Y = Double(3, {(0, 1): 1})
>>> [F.put_doubles(F, Y) == Double(3, {(1, 0): 1, (0, 1): 2, (1, 1): 2, (0, 2): 1, (1, 2): 1}), F.times(Y).entries == Double(3, {(1, 1): 1, (0, 2): 1, (1, 2): 1}).entries]
[True, True]
>>> [row_double(Row((0, 1, Ratio(1, 2))), F).at(1, 1).top, row_product(Row((1, 1, 0)), Row((1, 1, 0))).at(1, 1).top]
[2, 1]
>>> [[step_double(n, n).at(i, n - i).top for i in range(1, n)] for n in (4, 6)]
[[2, 3, 2], [6, 15, 20, 15, 6]]
>>> [Double(2, {(1, 1): 7}, modulus=5).entries, Double(2, {(2, 0): 5}, modulus=5).entries, F.led(2).swapped() == F.led(2)]
[{(1, 1): 2}, {}, True]
>>> Double(2, {(2, 1): 1})
raises InvalidDouble
"""

STAGE_4 = """
>>> [str(TIMES), TIMES.double.at(1, 1) == Ratio(1), TIMES.is_whole, str(TIMES.multiple(2)), str(TIMES.multiple(-1)), str(TIMES_FIVE.multiple(5))]
['law of degree 6', True, True, '2*x + x^2 to 6', '-x + x^2 - x^3 + x^4 - x^5 + x^6 to 6', 'x^5 to 6 modulo 5']
>>> [str(SOME.multiple(2)), str(SOME.sum_of(Row.plain(5), Row((0, 0, 1, 0, 0, 0)))), SOME.against(Row.plain(5)) == SOME.multiple(-1)]
['2*x - x^2 + 2*x^3 - x^4 - 16*x^5 to 5', 'x + x^2 - x^3 + x^4 + x^5 to 5', True]
>>> [fault(Double(3, {(1, 0): 1, (0, 1): 1, (1, 1): 1})), fault(Double(3, {(1, 0): 1, (0, 1): 1, (2, 0): 1})), fault(Double(3, {(1, 0): 1, (0, 1): 1, (1, 2): 1})), fault(Double(4, {(1, 0): 1, (0, 1): 1, (2, 2): 1}))]
[None, ('plain', (2, 0)), ('swap', (1, 2)), ('group', (1, 1, 2))]
>>> [TIMES.changed(Row((0, -1, 0))) == Law.multiplicative(2, -1), Law.quadric(5, 1, 2).double.at(2, 2) == Ratio(2), is_law(TIMES.double), is_law(TIMES)]
[True, True, True, False]
>>> Law(Double(3, {(1, 0): 1}))
raises InvalidLaw
"""

STAGE_5 = """
>>> [str(log_of(TIMES)), str(exp_of(SOME)), str(differential(SOME)), str(differential(TIMES_FIVE))]
['x - 1/2*x^2 + 1/3*x^3 - 1/4*x^4 + 1/5*x^5 - 1/6*x^6 to 6', 'x - 1/2*x^2 + 1/2*x^3 - 3/8*x^4 - 11/40*x^5 to 5', '1 + x - x^3 + 2*x^4 to 4', '1 + 4*x + x^2 + 4*x^3 + x^4 + 4*x^5 to 5 modulo 5']
>>> LOG = log_of(TIMES)
>>> [law_of_log(LOG) == TIMES, str(fold_row(LOG, Ratio(1, 2))), fold_row(LOG, 3) == TIMES.multiple(3), is_log(LOG), is_log(Row((0, 2, 1))), is_whole_log(LOG)]
[True, '1/2*x - 1/8*x^2 + 1/16*x^3 - 5/128*x^4 + 7/256*x^5 - 21/1024*x^6 to 6', True, True, False, True]
>>> [log_fault(LOG), log_fault(Row((0, 1, Ratio(1, 4)))), log_fault(Row((0, 1, 0, 0, Ratio(1, 4)))), log_fault(Row((0, 1, Ratio(1, 6), Ratio(1, 2)))), log_fault(Row((0, 1, 0, Ratio(1, 3))))]
[None, (2, 2), (4, 2), (2, 3), None]
>>> [str(curve_log(LOG, Row((0, 0, 1)))), str(curve_of_log(LOG, Row((0, 2, 0)))), str(changed_log(LOG, Row((0, -1, 0))))]
['x^2 to 2', '2*x + 2*x^2 to 2', 'x + 1/2*x^2 to 2']
>>> log_of(TIMES_FIVE)
raises InvalidOperation
"""

STAGE_6 = """
>>> [str(log_of_steps((1, 0, -1, 2))), str(next_entry(Row((0, 1, Ratio(1, 2), 0)))), str(next_entry(Row((0, 1, 0, Ratio(1, 3), 0)))), steps_of(Law.multiplicative(6, 1)), steps_of(Law.additive(4))]
['x + 1/2*x^2 - 1/4*x^4 + 2/5*x^5 to 5', '1/4', '0', (-1, 1, -1, 1, -1), (0, 0, 0)]
>>> [law_of_steps((1, 0, 0)).led(2) == law_of_steps((-1, 0, 0)).led(2), steps_of(law_of_steps((-1, 0, 0)).led(2)), law_of_steps((1, 0, 0), modulus=2) == law_of_steps((1, 0, 0)).led(2)]
[False, (1, 0, 1), True]
>>> FIVE = law_of_steps((2, 1), modulus=5)
>>> [steps_of(FIVE), is_lift(FIVE, lift_of(FIVE)), is_lift(FIVE, law_of_steps((7, 1))), extended(FIVE, 4) == law_of_steps((2, 1, 4), modulus=5), len(list(laws_modulo(4, 2)))]
[(2, 1), True, True, True, 8]
>>> [str(first_difference(TIMES, Law.additive(6))[1]), first_difference(SOME, moved_by(SOME, 3))[0], first_difference(SOME, SOME)]
['-1', 5, None]
>>> law_of_steps((2,), modulus=2)
raises InvalidSteps
"""

STAGE_7 = """
>>> THREE, PLUS = Law.multiplicative(6, 3), Law.additive(6)
>>> [str(strict_row(TIMES, PLUS)), str(strict_row(PLUS, TIMES)), str(strict_row(TIMES, THREE)), str(row_between(THREE, TIMES, 3))]
['x - 1/2*x^2 + 1/3*x^3 - 1/4*x^4 + 1/5*x^5 - 1/6*x^6 to 6', 'x + 1/2*x^2 + 1/6*x^3 + 1/24*x^4 + 1/120*x^5 + 1/720*x^6 to 6', 'x + x^2 + 1/3*x^3 to 6', '3*x to 6']
>>> [row_fault(strict_row(TIMES, PLUS)), row_fault(strict_row(TIMES, THREE)), row_fault(row_between(THREE, TIMES, 3)), are_strictly_alike(TIMES, THREE), are_strictly_alike(SOME, law_of_steps((1, 0, -1, 7)))]
[(2, 2), (3, 3), None, False, True]
>>> [str(strict_row(SOME, law_of_steps((1, 0, -1, 7)))), str(strict_row(SOME, law_of_steps((1, 2, -1, 2)))), is_between(TIMES, TIMES, TIMES.multiple(-2)), is_between(TIMES, PLUS, Row.plain(6))]
['x - x^5 to 5', 'x - 2/3*x^3 + 2/3*x^4 + 2/3*x^5 to 5', True, False]
>>> TWO, NONE = Law.multiplicative(3, 1, modulus=2), Law.additive(3, modulus=2)
>>> [str(row) for row in rows_modulo(TWO, TWO)], [str(row) for row in rows_modulo(TWO, NONE)], count_between(Law.additive(4, modulus=2), Law.additive(4, modulus=2))
(['0 to 3 modulo 2', 'x^2 to 3 modulo 2', 'x to 3 modulo 2', 'x + x^2 + x^3 to 3 modulo 2'], ['0 to 3 modulo 2', 'x^2 to 3 modulo 2'], 8)
>>> [alike_row(TWO, NONE), is_between(TWO, TWO, alike_row(TWO, TWO))]
[None, True]
>>> row_between(TWO, NONE, 1)
raises InvalidOperation
"""

STAGE_8 = """
>>> [height_of(TIMES_FIVE), head_of(TIMES_FIVE), str(inner_row(TIMES_FIVE)), height_of(Law.additive(8, modulus=2)), height_of(SOME.led(3))]
[1, 1, 'x to 1 modulo 5', None, None]
>>> [str(SOME.led(2).multiple(2)), height_of(SOME.led(2)), str(inner_row(SOME.led(2))), height_of(SOME.led(5)), head_of(SOME.led(5))]
['x^2 + x^4 to 5 modulo 2', 1, 'x + x^2 to 2 modulo 2', 1, 2]
>>> FOUR = law_of_height(2, 8, 2)
>>> [height_of(FOUR), str(FOUR.multiple(2)), str(FOUR.multiple(6)), height_of(law_of_height(3, 9, 2, head=2)), head_of(law_of_height(3, 9, 2, head=2)), height_of(law_of_height(7, 5, None))]
[2, 'x^4 to 8 modulo 2', 'x^4 to 8 modulo 2', 2, 2, None]
>>> [height_counts(2, 8), height_counts(3, 4), height_counts(11, 3), zero_bound(FOUR, law_of_height(2, 8, 1)), zero_bound(FOUR, law_of_height(2, 9, None)), zero_bound(FOUR, FOUR)]
[(64, 32, 16, 16), (18, 9), (121,), 4, 2, None]
>>> height_of(SOME)
raises InvalidOperation
"""

STAGE_9 = """
>>> LOG, OWN = log_of(TIMES), log_of(SOME)
>>> [str(part_log(LOG, 2)), str(part_row(LOG, 2)), str(part_row(LOG, 3)), str(part_row(OWN, 2)), part_law(LOG, 2).is_whole]
['x - 1/2*x^2 - 1/4*x^4 to 6', 'x + 1/3*x^3 + 1/3*x^4 + 8/15*x^5 + 34/45*x^6 to 6', 'x - 1/2*x^2 + 1/4*x^4 - 1/20*x^5 - 3/8*x^6 to 6', 'x + 2/5*x^5 to 5', True]
>>> [[str(part) for part in parts_of(LOG, 2)], [str(part) for part in second_parts_of(LOG, 2)], parts_of(LOG, 7)]
[['-1', '0'], ['1', '4'], ()]
>>> [type_of(LOG, 2), type_of(LOG, 3), type_of(LOG, 5), type_of(OWN, 2), type_of(OWN, 7), is_type(LOG, 2, (-1, 0)), is_type(LOG, 2, (1, 0)), type_of(Row((0, 1, Ratio(1, 4))), 2)]
[(1, 1), (2,), (4,), (1, 0), (), True, False, None]
>>> [str(log_of_parts(2, (1, 0), 5)), str(log_of_second_parts(2, (1, 4), 6)), str(log_of_type(2, (1, 0), 6)), are_alike_at(LOG, OWN, 2), are_alike_at(LOG, log_of_type(3, (2,), 6), 3)]
['x + 1/2*x^2 + 1/4*x^4 to 5', 'x - 1/2*x^2 - 1/4*x^4 to 6', 'x - 1/2*x^2 + 1/4*x^4 to 6', False, True]
>>> [is_whole_at(2, Ratio(1, 3)), is_whole_at(3, Ratio(1, 3)), is_whole_at(3, TIMES), is_whole_at(3, LOG), is_whole_at(2, None)]
[True, False, True, False, False]
>>> parts_of(LOG, 4)
raises InvalidPrime
"""

STAGES = [STAGE_1, STAGE_2, STAGE_3, STAGE_4, STAGE_5, STAGE_6, STAGE_7, STAGE_8, STAGE_9]
MODULES = [numbers, ratios, rows, doubles, laws, logs, steps, rows_between, heights, parts]


def all_names():
    """What the modules define themselves, as the examples read it."""
    names = {}
    for module in MODULES:
        for name, value in vars(module).items():
            if getattr(value, "__module__", None) == module.__name__:
                names[name] = value
    return names


class TestExamples(Examples):
    def test_stages(self):
        for number, text in enumerate(STAGES, start=1):
            with self.subTest(stage=number):
                self.run_examples(VALUES + text.lstrip("\n"), all_names())


if __name__ == "__main__":
    unittest.main()
