"""The examples of the document, as they stand."""

import unittest

from lawseries.base import numbers, ratios
from lawseries.between import rows_between
from lawseries.cubic import cubics
from lawseries.curve import curves
from lawseries.double import doubles
from lawseries.euler import eulers
from lawseries.genus import genera
from lawseries.ghost import ghosts
from lawseries.height import heights
from lawseries.law import laws
from lawseries.local import folds
from lawseries.log import logs
from lawseries.number import bernoullis
from lawseries.part import parts
from lawseries.row import rows
from lawseries.step import steps
from lawseries.use import desk
from tests.support import Examples

# The values that stand ahead of all examples.
VALUES = """
>>> TIMES = Law.multiplicative(6, 1)
>>> TIMES_FIVE = Law.multiplicative(6, 1, modulus=5)
>>> SOME = law_of_steps((1, 0, -1, 2))
"""

STAGE_1 = """
>>> half, third = Ratio(2, -4), Ratio(1, 3)
>>> [str(half), str(half.plus(third)), str(half.times(6)), str(third.over(half)), half.compared(third), half.sign, Ratio.read("-1/2") == half, Ratio(3) == 3]
['-1/2', '-1/6', '-3', '-2/3', -1, -1, True, False]
>>> [is_prime(91), is_name("Ab"), divisors(12), prime_powers(360), common_divisor((12, -18, 0)), [moebius(1), moebius(12), moebius(30)]]
[False, False, (1, 2, 3, 4, 6, 12), {2: 3, 3: 2, 5: 1}, 6, [1, 0, -1]]
>>> [valuation(2, Ratio(3, 8)), valuation(3, -18), binomial(6, 2), binomial(2, 3), step_divisor(8), step_divisor(6), partitions_of(0), partitions_of(10)]
[-3, 2, 15, 0, 2, 1, 1, 42]
>>> valuation(2, 0)
raises InvalidOperation
"""

STAGE_2 = """
>>> LOG = Row((0, 1, Ratio(-1, 2), Ratio(1, 3)))
>>> [str(LOG), LOG.degree, LOG.order, LOG.is_whole, str(LOG.turned_back()), str(LOG.put_in(LOG.turned_back())), str(LOG.derived())]
['x - 1/2*x^2 + 1/3*x^3 to 3', 3, 1, False, 'x + 1/2*x^2 + 1/6*x^3 to 3', 'x to 3', '1 - x + x^2 to 2']
>>> [str(Row((0, 1, 1, 0)).led(5)), Row((1, 1, 1, 1)).reciprocal().whole(), str(Row((0, 1, 4), modulus=5).raised(2)), Row((0, 2, 1), modulus=9).turned_back().entries]
['x + x^2 to 3 modulo 5', (1, -1, 0, 0), 'x^2 to 2 modulo 5', (0, 5, 1)]
>>> [str(exp_of_row(Row((0, 1, 0, 0)))), log_of_row(Row((1, 1, 0, 0))) == LOG, str(power_entry(LOG, 2, 3)), str(LOG.spread(2)), str(Row((3,)))]
['1 + x + 1/2*x^2 + 1/6*x^3 to 3', True, '1', 'x^2 to 3', '3 to 0']
>>> LOG.led(6)
raises InvalidOperation
"""

STAGE_3 = """
>>> F = Double(3, {(1, 0): 1, (0, 1): 1, (1, 1): 1})
>>> [F.is_even, len(F), list(F), F.at(1, 1).top, F.line(1) == Row((1, 1, 0)), str(F.put_rows(Row.plain(3), Row((0, 0, 1, 0)))), str(F)]
[True, 3, [(0, 1), (1, 0), (1, 1)], 1, True, 'x + x^2 + x^3 to 3', 'double row of degree 3']
>>> Y = Double(3, {(0, 1): 1})
>>> [F.put_doubles(F, Y) == Double(3, {(1, 0): 1, (0, 1): 2, (1, 1): 2, (0, 2): 1, (1, 2): 1}), F.times(Y).entries == Double(3, {(1, 1): 1, (0, 2): 1, (1, 2): 1}).entries]
[True, True]
>>> [row_double(Row((0, 1, Ratio(1, 2))), F).at(1, 1).top, row_product(Row((1, 1, 0)), Row((1, 1, 0))).at(1, 1).top]
[2, 1]
>>> [[step_double(n, n).at(i, n - i).top for i in range(1, n)] for n in (4, 6)]
[[2, 3, 2], [6, 15, 20, 15, 6]]
>>> [Double(2, {(1, 1): 7}, modulus=5).entries, Double(2, {(2, 0): 5}, modulus=5).entries, F.led(2).swapped() == F.led(2)]
[{(1, 1): 2}, {}, True]
>>> Double(2, {(2, 1): 1})
raises InvalidDouble
"""

STAGE_4 = """
>>> [str(TIMES), TIMES.double.at(1, 1) == Ratio(1), TIMES.is_whole, str(TIMES.multiple(2)), str(TIMES.multiple(-1)), str(TIMES_FIVE.multiple(5))]
['law of degree 6', True, True, '2*x + x^2 to 6', '-x + x^2 - x^3 + x^4 - x^5 + x^6 to 6', 'x^5 to 6 modulo 5']
>>> [str(SOME.multiple(2)), str(SOME.sum_of(Row.plain(5), Row((0, 0, 1, 0, 0, 0)))), SOME.against(Row.plain(5)) == SOME.multiple(-1)]
['2*x - x^2 + 2*x^3 - x^4 - 16*x^5 to 5', 'x + x^2 - x^3 + x^4 + x^5 to 5', True]
>>> [fault(Double(3, {(1, 0): 1, (0, 1): 1, (1, 1): 1})), fault(Double(3, {(1, 0): 1, (0, 1): 1, (2, 0): 1})), fault(Double(3, {(1, 0): 1, (0, 1): 1, (1, 2): 1})), fault(Double(4, {(1, 0): 1, (0, 1): 1, (2, 2): 1}))]
[None, ('plain', (2, 0)), ('swap', (1, 2)), ('group', (1, 1, 2))]
>>> [TIMES.changed(Row((0, -1, 0))) == Law.multiplicative(2, -1), Law.quadric(5, 1, 2).double.at(2, 2) == Ratio(2), is_law(TIMES.double), is_law(TIMES)]
[True, True, True, False]
>>> Law(Double(3, {(1, 0): 1}))
raises InvalidLaw
"""

STAGE_5 = """
>>> [str(log_of(TIMES)), str(exp_of(SOME)), str(differential(SOME)), str(differential(TIMES_FIVE))]
['x - 1/2*x^2 + 1/3*x^3 - 1/4*x^4 + 1/5*x^5 - 1/6*x^6 to 6', 'x - 1/2*x^2 + 1/2*x^3 - 3/8*x^4 - 11/40*x^5 to 5', '1 + x - x^3 + 2*x^4 to 4', '1 + 4*x + x^2 + 4*x^3 + x^4 + 4*x^5 to 5 modulo 5']
>>> LOG = log_of(TIMES)
>>> [law_of_log(LOG) == TIMES, str(fold_row(LOG, Ratio(1, 2))), fold_row(LOG, 3) == TIMES.multiple(3), is_log(LOG), is_log(Row((0, 2, 1))), is_whole_log(LOG)]
[True, '1/2*x - 1/8*x^2 + 1/16*x^3 - 5/128*x^4 + 7/256*x^5 - 21/1024*x^6 to 6', True, True, False, True]
>>> [log_fault(LOG), log_fault(Row((0, 1, Ratio(1, 4)))), log_fault(Row((0, 1, 0, 0, Ratio(1, 4)))), log_fault(Row((0, 1, Ratio(1, 6), Ratio(1, 2)))), log_fault(Row((0, 1, 0, Ratio(1, 3))))]
[None, (2, 2), (4, 2), (2, 3), None]
>>> [str(curve_log(LOG, Row((0, 0, 1)))), str(curve_of_log(LOG, Row((0, 2, 0)))), str(changed_log(LOG, Row((0, -1, 0))))]
['x^2 to 2', '2*x + 2*x^2 to 2', 'x + 1/2*x^2 to 2']
>>> log_of(TIMES_FIVE)
raises InvalidOperation
"""

STAGE_6 = """
>>> [str(log_of_steps((1, 0, -1, 2))), str(next_entry(Row((0, 1, Ratio(1, 2), 0)))), str(next_entry(Row((0, 1, 0, Ratio(1, 3), 0)))), steps_of(Law.multiplicative(6, 1)), steps_of(Law.additive(4))]
['x + 1/2*x^2 - 1/4*x^4 + 2/5*x^5 to 5', '1/4', '0', (-1, 1, -1, 1, -1), (0, 0, 0)]
>>> [law_of_steps((1, 0, 0)).led(2) == law_of_steps((-1, 0, 0)).led(2), steps_of(law_of_steps((-1, 0, 0)).led(2)), law_of_steps((1, 0, 0), modulus=2) == law_of_steps((1, 0, 0)).led(2)]
[False, (1, 0, 1), True]
>>> FIVE = law_of_steps((2, 1), modulus=5)
>>> [steps_of(FIVE), is_lift(FIVE, lift_of(FIVE)), is_lift(FIVE, law_of_steps((7, 1))), extended(FIVE, 4) == law_of_steps((2, 1, 4), modulus=5), len(list(laws_modulo(4, 2)))]
[(2, 1), True, True, True, 8]
>>> [str(first_difference(TIMES, Law.additive(6))[1]), first_difference(SOME, moved_by(SOME, 3))[0], first_difference(SOME, SOME)]
['-1', 5, None]
>>> law_of_steps((2,), modulus=2)
raises InvalidSteps
"""

STAGE_7 = """
>>> THREE, PLUS = Law.multiplicative(6, 3), Law.additive(6)
>>> [str(strict_row(TIMES, PLUS)), str(strict_row(PLUS, TIMES)), str(strict_row(TIMES, THREE)), str(row_between(THREE, TIMES, 3))]
['x - 1/2*x^2 + 1/3*x^3 - 1/4*x^4 + 1/5*x^5 - 1/6*x^6 to 6', 'x + 1/2*x^2 + 1/6*x^3 + 1/24*x^4 + 1/120*x^5 + 1/720*x^6 to 6', 'x + x^2 + 1/3*x^3 to 6', '3*x to 6']
>>> [row_fault(strict_row(TIMES, PLUS)), row_fault(strict_row(TIMES, THREE)), row_fault(row_between(THREE, TIMES, 3)), are_strictly_alike(TIMES, THREE), are_strictly_alike(SOME, law_of_steps((1, 0, -1, 7)))]
[(2, 2), (3, 3), None, False, True]
>>> [str(strict_row(SOME, law_of_steps((1, 0, -1, 7)))), str(strict_row(SOME, law_of_steps((1, 2, -1, 2)))), is_between(TIMES, TIMES, TIMES.multiple(-2)), is_between(TIMES, PLUS, Row.plain(6))]
['x - x^5 to 5', 'x - 2/3*x^3 + 2/3*x^4 + 2/3*x^5 to 5', True, False]
>>> TWO, NONE = Law.multiplicative(3, 1, modulus=2), Law.additive(3, modulus=2)
>>> [str(row) for row in rows_modulo(TWO, TWO)], [str(row) for row in rows_modulo(TWO, NONE)], count_between(Law.additive(4, modulus=2), Law.additive(4, modulus=2))
(['0 to 3 modulo 2', 'x^2 to 3 modulo 2', 'x to 3 modulo 2', 'x + x^2 + x^3 to 3 modulo 2'], ['0 to 3 modulo 2', 'x^2 to 3 modulo 2'], 8)
>>> [alike_row(TWO, NONE), is_between(TWO, TWO, alike_row(TWO, TWO))]
[None, True]
>>> row_between(TWO, NONE, 1)
raises InvalidOperation
"""

STAGE_8 = """
>>> [height_of(TIMES_FIVE), head_of(TIMES_FIVE), str(inner_row(TIMES_FIVE)), height_of(Law.additive(8, modulus=2)), height_of(SOME.led(3))]
[1, 1, 'x to 1 modulo 5', None, None]
>>> [str(SOME.led(2).multiple(2)), height_of(SOME.led(2)), str(inner_row(SOME.led(2))), height_of(SOME.led(5)), head_of(SOME.led(5))]
['x^2 + x^4 to 5 modulo 2', 1, 'x + x^2 to 2 modulo 2', 1, 2]
>>> FOUR = law_of_height(2, 8, 2)
>>> [height_of(FOUR), str(FOUR.multiple(2)), str(FOUR.multiple(6)), height_of(law_of_height(3, 9, 2, head=2)), head_of(law_of_height(3, 9, 2, head=2)), height_of(law_of_height(7, 5, None))]
[2, 'x^4 to 8 modulo 2', 'x^4 to 8 modulo 2', 2, 2, None]
>>> [height_counts(2, 8), height_counts(3, 4), height_counts(11, 3), zero_bound(FOUR, law_of_height(2, 8, 1)), zero_bound(FOUR, law_of_height(2, 9, None)), zero_bound(FOUR, FOUR)]
[(64, 32, 16, 16), (18, 9), (121,), 4, 2, None]
>>> height_of(SOME)
raises InvalidOperation
"""

STAGE_9 = """
>>> LOG, OWN = log_of(TIMES), log_of(SOME)
>>> [str(part_log(LOG, 2)), str(part_row(LOG, 2)), str(part_row(LOG, 3)), str(part_row(OWN, 2)), part_law(LOG, 2).is_whole]
['x - 1/2*x^2 - 1/4*x^4 to 6', 'x + 1/3*x^3 + 1/3*x^4 + 8/15*x^5 + 34/45*x^6 to 6', 'x - 1/2*x^2 + 1/4*x^4 - 1/20*x^5 - 3/8*x^6 to 6', 'x + 2/5*x^5 to 5', True]
>>> [[str(part) for part in parts_of(LOG, 2)], [str(part) for part in second_parts_of(LOG, 2)], parts_of(LOG, 7)]
[['-1', '0'], ['1', '4'], ()]
>>> [type_of(LOG, 2), type_of(LOG, 3), type_of(LOG, 5), type_of(OWN, 2), type_of(OWN, 7), is_type(LOG, 2, (-1, 0)), is_type(LOG, 2, (1, 0)), type_of(Row((0, 1, Ratio(1, 4))), 2)]
[(1, 1), (2,), (4,), (1, 0), (), True, False, None]
>>> [str(log_of_parts(2, (1, 0), 5)), str(log_of_second_parts(2, (1, 4), 6)), str(log_of_type(2, (1, 0), 6)), are_alike_at(LOG, OWN, 2), are_alike_at(LOG, log_of_type(3, (2,), 6), 3)]
['x + 1/2*x^2 + 1/4*x^4 to 5', 'x - 1/2*x^2 - 1/4*x^4 to 6', 'x - 1/2*x^2 + 1/4*x^4 to 6', False, True]
>>> [is_whole_at(2, Ratio(1, 3)), is_whole_at(3, Ratio(1, 3)), is_whole_at(3, TIMES), is_whole_at(3, LOG), is_whole_at(2, None)]
[True, False, True, False, False]
>>> parts_of(LOG, 4)
raises InvalidPrime
"""

STAGE_10 = """
>>> PLAIN, BENT = Row.plain(6), Row((0, 2, -1, 3, 0, 1))
>>> [str(picked(TIMES, PLAIN, 2)), str(picked(TIMES, PLAIN, 3)), str(picked(SOME, Row.plain(5), 2)), str(picked(SOME, BENT, 2)), str(picked(SOME, BENT, 3))]
['-x to 3', 'x to 2', 'x - x^2 to 2', '2*x + 3*x^2 to 2', '3*x to 1']
>>> [str(shifted(BENT, 2)), str(stretched(BENT, -1)), str(picked(SOME, shifted(BENT, 2), 2)), str(SOME.sum_of(BENT, BENT).cut(2))]
['2*x^2 - x^4 to 5', '-2*x - x^2 - 3*x^3 - x^5 to 5', '4*x - 6*x^2 to 2', '4*x - 6*x^2 to 2']
>>> [str(picked(TIMES_FIVE, Row.plain(6, modulus=5), 5)), str(picked(TIMES_FIVE, Row.plain(6, modulus=5), 2)), str(curve_sum(TIMES, (PLAIN, PLAIN, PLAIN)))]
['x to 1 modulo 5', '4*x to 3 modulo 5', '3*x + 3*x^2 + x^3 to 6']
>>> [str(one) for one in terms_of(TIMES, Row((0, 1, 1, 0, 0, 0, 0)))]
['1', '1', '-1', '1', '0', '0']
>>> [str(curve_of_terms(SOME, (1, 1, 1, 0, -1))), are_terms(SOME, BENT, (2, -1, 3, 0, 1)), broken_prime(SOME), broken_prime(law_of_log(Row((0, 1, 0, 0, Ratio(1, 4)))))]
['x + x^2 to 5', False, None, 2]
>>> picked(TIMES, BENT, 6)
raises InvalidOperation
"""

STAGE_11 = """
>>> SUMS = (1, 3, 4, 7, 6, 12)
>>> [are_ghosts(SUMS), ghost_row(SUMS).whole(), counts_of(SUMS), Witt.of_ghosts(SUMS).coordinates, are_ghosts((1, 2)), ghost_fault((1, 2)), str(ghost_row((1, 2)))]
[True, (1, 1, 2, 3, 5, 7, 11), (1, 1, 1, 1, 1, 1), (1, 1, 1, 1, 1, 1), False, 2, '1 + x + 3/2*x^2 to 2']
>>> TWO, ONE = Witt.single(2, 4), Witt.single(1, 4)
>>> [TWO.ghosts, TWO.counts, TWO.as_row().whole(), str(ONE.plus(ONE)), ONE.plus(ONE).ghosts, TWO.times(ONE) == TWO, ONE.moved(2).coordinates]
[(2, 4, 8, 16), (2, 1, 2, 3), (1, 2, 4, 8, 16), 'witt 2 -1 -2 -4', (2, 2, 2, 2), True, (0, 1, 0, 0)]
>>> [Witt.single(3, 6).taken(2).coordinates, ONE.moved(2).taken(2) == ONE.cut(2).plus(ONE.cut(2)), ONE.plus(ONE).rests(5), Witt.of_row(Row((1, 1, 2, 3))).counts, str(artin_row(2, 4))]
[(9, 0, 0), True, (2, 4, 3, 1), (1, 1, 1), '1 + x + x^2 + 2/3*x^3 + 2/3*x^4 to 4']
>>> counts_of((1, 2))
raises InvalidOperation
"""

STAGE_12 = """
>>> ELEVEN, LAST = Cubic.told(11), Cubic(0, 0, 1, -1, 0)
>>> [str(ELEVEN.w_row(8)), str(ELEVEN.differential_row(7)), ELEVEN.discriminant, ELEVEN.second, str(ELEVEN)]
['x^3 - x^5 + x^6 + x^7 - 3*x^8 to 8', '1 - x^2 + 2*x^3 + x^4 - 6*x^5 + 5*x^6 + 12*x^7 to 7', -11, 16, 'cubic 0 -1 1 0 0']
>>> [str(LAST.log_row(5)), LAST.law_by_log(6) == LAST.law_by_lines(6), ELEVEN.law_by_log(5).double.at(2, 2) == Ratio(-3), Cubic(2, 0, 0, 0, 0).law_by_log(4) == Law.multiplicative(4, -2)]
['x + 1/2*x^4 - 2/5*x^5 to 5', True, True, True]
>>> [[ELEVEN.trace_at(prime) for prime in (2, 3, 5, 7, 11, 13)], ELEVEN.kind_at(11), Cubic.told(27).kind_at(3), ELEVEN.height_at(2), ELEVEN.height_at(3), Cubic.told(27).height_at(3), LAST.height_at(2)]
[[-2, -1, 1, -2, 1, 4], 'node', 'cusp', 2, 1, None, 2]
>>> [ELEVEN.holds_at(1, 0), ELEVEN.holds_at(Ratio(1, 2), 0)]
[True, False]
>>> Cubic.told(12)
raises InvalidCount(12)
"""

STAGE_13 = """
>>> from lawseries.cubic.cubics import Cubic
>>> ELEVEN = cubic_rule(Cubic.told(11))
>>> [ELEVEN.level, ELEVEN.row_to(12).whole()[1:], ELEVEN.law_to(12).is_whole, ELEVEN.told_type(2), ELEVEN.told_type(11), ELEVEN.height_at(2, 12), ELEVEN.height_at(5, 4)]
[11, (1, -2, -1, 2, 1, 2, -2, 0, -2, -2, 1, -2), True, (2, 1), (-1, 0), 2, None]
>>> [eta_entries({1: 2, 11: 2}, 8), rule_fault(11, (1, -2, -1, 2)), rule_fault(1, (1, 3, 5, 6)), rule_fault(2, (1, 3, 5, 9, 0, 15)), is_rule_row(1, (2,)), str(ELEVEN)]
[(0, 1, -2, -1, 2, 1, 2, -2, 0), None, 4, None, False, 'rule of level 11']
>>> str(ELEVEN.log_to(4))
'x - x^2 - 1/3*x^3 + 1/2*x^4 to 4'
>>> ELEVEN.number_at(25)
raises InvalidCount(25)
"""

STAGE_14 = """
>>> CUBE, DOUBLE_FOLD = plain_fold(3, 4, 1), plain_fold(2, 4, 2)
>>> [str(CUBE), str(log_of_fold(3, CUBE)), str(law_of_fold(3, CUBE).double.at(1, 2)), str(residue_law(3, CUBE, 2).multiple(2)), fold_height(2, DOUBLE_FOLD), str(law_of_fold(2, DOUBLE_FOLD).double.at(2, 2))]
['3*x + x^3 to 4', 'x - 1/24*x^3 to 4', '1/8', '2*x + 7*x^3 to 4 modulo 9', 2, '3/7']
>>> [str(scalar_row(3, CUBE, 2)), str(scalar_row(3, CUBE, Ratio(1, 2))), law_of_fold(2, Row((0, 2, 1, 0))) == Law.multiplicative(3, 1), told_fold(3, Law.multiplicative(3, 1)).whole(), told_fold(3, Law.additive(3))]
['2*x + 1/4*x^3 to 4', '1/2*x - 1/64*x^3 to 4', True, (0, 3, 3, 1), None]
>>> [str(row_between_folds(3, Row((0, 3, 3, 1)), plain_fold(3, 3, 1))), is_fold(3, Row((0, 3, 3, 1))), is_fold(3, Row((0, 3, 1, 1))), is_fold(2, Row((0, 2, 0))), is_fold(3, (0, 3, 0, 1))]
['x - 1/2*x^2 + 3/8*x^3 to 3', True, False, False, False]
>>> scalar_row(3, CUBE, Ratio(1, 3))
raises InvalidOperation
"""

STAGE_15 = """
>>> TODD, SIGNS = Law.multiplicative(6, -1), Law.quadric(6, 0, 1)
>>> [[str(one) for one in projective_numbers(SIGNS)], str(characteristic_row(TODD)), genus_fault(SOME), genus_fault(law_of_projective((0, 0, 1)))]
[['1', '0', '1', '0', '1', '0'], '1 + 1/2*x + 1/12*x^2 - 1/720*x^4 to 5', None, ('H', 2, 2)]
>>> [str(surface_numbers(SOME)[(2, 3)]), str(surface_numbers(SOME)[(1, 4)]), str(surface_numbers(TODD)[(3, 3)]), str(surface_numbers(SIGNS)[(2, 3)])]
['-6', '-1', '1', '1']
>>> [str(sequence_of(TODD, 2)[(1, 1)]), str(sequence_of(TODD, 2)[(2,)]), str(sequence_of(SIGNS, 2)[(2,)]), str(sequence_of(SOME, 3)[(2, 1)])]
['1/12', '1/12', '-2/3', '-1/8']
>>> [product_table((2,)), product_table((1, 1)), surface_table(2, 2), end_number(product_table((2, 1))), end_number(surface_table(2, 3))]
[{(1, 1): 9, (2,): 3}, {(1, 1): 8, (2,): 4}, {(1, 1, 1): 48, (2, 1): 24, (3,): 6}, 0, -10]
>>> [str(value_at(SOME, product_table((1, 1)))), str(value_at(SOME, product_table((3, 1)))), str(value_at(SOME, surface_table(2, 3))), str(value_at(SIGNS, product_table((2, 2))))]
['1', '-1', '-6', '1']
>>> law_of_projective(())
raises InvalidGenus
"""

STAGE_16 = """
>>> LOG, OWN = log_of(TIMES), log_of(SOME)
>>> [[str(number) for number in numbers_of(LOG)], [str(number) for number in numbers_of(OWN)], str(number_at(LOG, 4)), log_of_numbers(numbers_of(OWN)) == OWN]
[['1', '-1/2', '1/6', '0', '-1/30', '0'], ['1', '1/2', '-1/2', '0', '141/10'], '-1/30', True]
>>> [bottom_bound(0), bottom_bound(1), bottom_bound(2), bottom_bound(4), bottom_bound(12), residue_at(LOG, 5, 4), residue_at(OWN, 5, 4), residue_at(LOG, 3, 2)]
[1, 2, 6, 30, 2730, 4, 3, 2]
>>> [is_of_integers(LOG), is_of_integers(Row((0, 1, Ratio(1, 4)))), str(scaled_log(OWN, 2)), [str(number) for number in numbers_of(scaled_log(OWN, 2))]]
[True, False, 'x + x^2 - 2*x^4 + 32/5*x^5 to 5', ['1', '1', '-2', '0', '1128/5']]
>>> residue_at(LOG, 2, 2)
raises InvalidOperation
"""

STAGE_17 = """
>>> desk, kept = Desk(), ("whole", "one")
>>> [desk.put("one", Law.multiplicative(3, 1)), desk.demand(kept), desk.fold("two", "one", 2), str(desk)]
[((), ('law one: law of degree 3 with 1 - x + x^2 to 2',)), ((), ()), ((), ('row two: 2*x + x^2 to 3',)), 'desk of 1 laws, 1 rows, 1 pledges']
>>> [desk.bind("four", "one", "two", "two"), desk.demand(("fold", "four", "one", 4)), desk.load("half", Row((0, 1, 0, Ratio(1, 2))))]
[((), ('row four: 4*x + 6*x^2 + 4*x^3 to 3',)), ((), ()), ((), ('row half: x + 1/2*x^3 to 3',))]
>>> desk.turn("one", "half")
raises Refused(("whole", "one"))
>>> [desk.waive(kept), desk.undo(many=3), desk.redo(), len(desk), desk.changes]
[((), ()), (('row half: x + 1/2*x^3 to 3',), ()), ((), ()), 2, 5]
"""

STAGES = [
    STAGE_1, STAGE_2, STAGE_3, STAGE_4, STAGE_5, STAGE_6, STAGE_7, STAGE_8, STAGE_9, STAGE_10,
    STAGE_11, STAGE_12, STAGE_13, STAGE_14, STAGE_15, STAGE_16, STAGE_17,
]
MODULES = [
    numbers, ratios, rows, doubles, laws, logs, steps, rows_between, heights, parts, curves, ghosts,
    cubics, eulers, folds, genera, bernoullis, desk,
]


def all_names():
    """What the modules define themselves, as the examples read it."""
    names = {}
    for module in MODULES:
        for name, value in vars(module).items():
            if getattr(value, "__module__", None) == module.__name__:
                names[name] = value
    return names


class TestExamples(Examples):
    def test_stages(self):
        for number, text in enumerate(STAGES, start=1):
            with self.subTest(stage=number):
                self.run_examples(VALUES + text.lstrip("\n"), all_names())


if __name__ == "__main__":
    unittest.main()
