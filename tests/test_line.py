"""Call 12: line."""

import itertools
import unittest
from fractions import Fraction

from exactrows.figures import corr, cov, line, mean
from tests import reference as ref
from tests import refused


def minus(kind, row):
    return [ref.negative(kind, cell) for cell in row]


class WorkedOutByHand(unittest.TestCase):
    def test_exact_ones(self):
        for kind in ref.KINDS:
            x = ref.row_of(kind, [0.0, 1.0, 2.0])
            for y, slope, height in (([1.0, 3.0, 5.0], 2.0, 1.0), ([5.0, 3.0, 1.0], -2.0, 5.0), ([4.0, 4.0, 4.0], 0.0, 4.0),
                                     ([0.0, 1.5, 3.0], 1.5, 0.0), ([-1.0, -1.5, -2.0], -0.5, -1.0), ([0.0, 0.0, 0.0], 0.0, 0.0),
                                     ([1.0, 5.0, 3.0], 1.0, 2.0), ([1.0, -5.0, 1.0], 0.0, -1.0)):
                self.assertEqual(line(kind, x, ref.row_of(kind, y)), [0] + ref.row_of(kind, [slope, height]))
        # 1, 2 and 1, 3: slope 2, height -1
        self.assertEqual(line(9, [0x3C00, 0x4000], [0x3C00, 0x4200]), [0, 0x4000, 0xBC00])

    def test_ones_that_are_not_exact(self):
        # Through 0, 3 and 1, 2 it rises by 1/3 from 1.
        self.assertEqual(line(9, [0, 0x4200], [0x3C00, 0x4000]), [16, 0x3555, 0x3C00])
        # Through 1, 4 and 1, 2 it rises by 1/3 from 2/3.
        self.assertEqual(line(9, [0x3C00, 0x4400], [0x3C00, 0x4000]), [16, 0x3555, 0x3955])
        for kind in ref.KINDS:
            x, y = ref.row_of(kind, [1.0, 4.0]), ref.row_of(kind, [1.0, 2.0])
            self.assertEqual(line(kind, x, y), ref.answer(kind, [Fraction(1, 3), Fraction(2, 3)]))

    def test_nought_is_the_cell_0(self):
        for kind in ref.KINDS:
            minus_nought = ref.sign_bit(kind)
            x = ref.row_of(kind, [-1.0, 1.0])
            self.assertEqual(line(kind, x, [minus_nought, minus_nought]), [0, 0, 0])
            self.assertEqual(line(kind, minus(kind, x), [minus_nought, 0]), [0, 0, 0])
            self.assertEqual(line(kind, x, minus(kind, x)), [0, ref.cell_of(kind, -1.0), 0])

    def test_a_row_with_itself(self):
        for kind in ref.KINDS:
            for n in (2, 3, 20):
                x = ref.spread_cells(kind, n, kind + n)
                self.assertEqual(line(kind, x, x), [0, ref.cell_of(kind, 1.0), 0])
                self.assertEqual(line(kind, x, minus(kind, x)), [0, ref.cell_of(kind, -1.0), 0])


class TheExactSlope(unittest.TestCase):
    def test_the_height_is_that_of_the_exact_slope(self):
        found = 0
        for kind in ref.KINDS:
            # Far from 0 each small change of the slope changes the height.
            for far in (64.0, 96.0, 100.0):
                x = ref.row_of(kind, [far, far + 1.0, far + 2.0])
                for y in ([1.0, 2.0, 2.5], [7.0, 7.0, 8.0], [1.0, 1.25, 1.5], [-3.0, 2.0, 2.0], [3.0, 5.0, 6.0]):
                    y = ref.row_of(kind, y)
                    told = ref.line(kind, x, y)
                    self.assertEqual(line(kind, x, y), told)
            # A slope of 1/3: 33 of it are 11, so the height is just 0.
            x = ref.row_of(kind, [30.0, 33.0, 36.0])
            y = ref.row_of(kind, [10.0, 11.0, 12.0])
            slope = ref.rounded(kind, Fraction(1, 3))
            self.assertEqual(line(kind, x, y), [16, slope[1], 0])
            by_rounded = ref.rounded(kind, 11 - ref.number(kind, slope[1]) * 33)
            found += by_rounded[1] != 0
        self.assertEqual(found, 4)

    def test_a_height_that_the_rounded_means_would_tell_otherwise(self):
        for kind in ref.KINDS:
            one = ref.cell_of(kind, 1.0)
            # The means are no cells, the line is y = x.
            x = [one, one + 1, one + 1]
            self.assertEqual(line(kind, x, x), [0, one, 0])
            self.assertEqual(mean(kind, x)[0], 16)

    def test_a_slope_that_rounds_to_nought_still_moves_the_height(self):
        for kind in ref.KINDS:
            top = ref.greatest(kind)
            # The slope is far below the least number, but x lies far away.
            x, y = [top, top - 1], [1, 0]
            told = ref.line(kind, x, y)
            self.assertEqual(line(kind, x, y), told)
            self.assertEqual(told[0], 24)
            self.assertEqual(told[1], 0)
            self.assertNotEqual(told[2] % ref.sign_bit(kind), 0)


class Rounded(unittest.TestCase):
    def test_too_great(self):
        for kind in ref.KINDS:
            top, infinite = ref.greatest(kind), ref.infinite(kind)
            self.assertEqual(line(kind, [0, 1], [0, top]), [20, infinite, 0])
            self.assertEqual(line(kind, [0, 1], [0, ref.negative(kind, top)]), [20, ref.negative(kind, infinite), 0])
            # From 0 to top within one step, far away: the height is too great as well.
            one = ref.cell_of(kind, 1.0)
            self.assertEqual(line(kind, [one, one + 1], [0, top]), [20, infinite, ref.negative(kind, infinite)])
            self.assertEqual(line(kind, [one, one + 1], [top, 0]), [20, ref.negative(kind, infinite), infinite])

    def test_a_height_alone_that_is_too_great(self):
        for kind in ref.KINDS:
            top, minus_top = ref.greatest(kind), ref.negative(kind, ref.greatest(kind))
            one, two, three = ref.row_of(kind, [1.0, 2.0, 3.0])
            # The slope is -top, the height 2 top.
            self.assertEqual(line(kind, [one, two, three], [top, 0, minus_top]), [20, minus_top, ref.infinite(kind)])
            self.assertEqual(line(kind, [one, two, three], [minus_top, 0, top]),
                             [20, top, ref.negative(kind, ref.infinite(kind))])

    def test_below_the_least_ordinary_number(self):
        for kind in ref.KINDS:
            one, minus_one, two = ref.row_of(kind, [1.0, -1.0, 2.0])
            minus_nought = ref.sign_bit(kind)
            self.assertEqual(line(kind, [0, one], [0, 1]), [0, 1, 0])
            self.assertEqual(line(kind, [0, one], [3, 2]), [0, ref.negative(kind, 1), 3])
            # Half of the least number, three halves of it.
            self.assertEqual(line(kind, [0, two], [0, 1]), [24, 0, 0])
            self.assertEqual(line(kind, [0, two], [1, 0]), [24, minus_nought, 1])
            self.assertEqual(line(kind, [0, two], [0, 3]), [24, 2, 0])
            # The height is halfway between 0 and 1 of it, and 1 and 2.
            self.assertEqual(line(kind, [minus_one, one], [0, 1]), [24, 0, 0])
            self.assertEqual(line(kind, [minus_one, one], [1, 2]), [24, 0, 2])
            self.assertEqual(line(kind, [minus_one, one], [0, ref.negative(kind, 1)]), [24, minus_nought, minus_nought])

    def test_about_the_least_ordinary_number(self):
        for kind in ref.KINDS:
            least = ref.least_ordinary(kind)
            x = ref.row_of(kind, [-1.0, 1.0])
            # The slope is half of 1 of the least number, the height halfway between the two.
            self.assertEqual(line(kind, x, [least - 1, least]), [24, 0, least])
            self.assertEqual(line(kind, x, [least - 2, least]), [0, 1, least - 1])
            self.assertEqual(line(kind, x, [least, least + 2]), [0, 1, least + 1])
            self.assertEqual(line(kind, ref.row_of(kind, [1.0, -1.0]), [least, least + 2]), [0, ref.negative(kind, 1), least + 1])


class FlagsOfBoth(unittest.TestCase):
    def test_of_one_alone(self):
        for kind in ref.KINDS:
            third = ref.rounded(kind, Fraction(1, 3))[1]
            two_thirds = ref.rounded(kind, Fraction(2, 3))[1]
            one, zero, three = ref.row_of(kind, [1.0, 0.0, 3.0])
            # The slope: through 0, 1 and 3, 2. The height: the mean of 1, 1, 0 with a slope of 0 or -1/2.
            self.assertEqual(line(kind, [zero, three], ref.row_of(kind, [1.0, 2.0])), [16, third, one])
            self.assertEqual(line(kind, ref.row_of(kind, [-1.0, 0.0, 1.0]), [one, zero, one]), [16, 0, two_thirds])

    def test_of_both(self):
        for kind in ref.KINDS:
            one = ref.cell_of(kind, 1.0)
            top = ref.greatest(kind)
            self.assertEqual(line(kind, [0, one], [0, one]), [0, one, 0])
            # A sixth of the least number, and a half of it.
            self.assertEqual(line(kind, ref.row_of(kind, [-3.0, 3.0]), [0, 1]), [24, 0, 0])
            x, y = [0, 1, 2, 3], [0, top, top, 1]
            self.assertEqual(line(kind, x, y), ref.line(kind, x, y))

    def test_too_great_and_too_small_together(self):
        for kind in ref.KINDS:
            top = ref.greatest(kind)
            minus_top = ref.negative(kind, top)
            # The slope is about top by the least number; the mean of y is a third of the least number.
            x = [ref.negative(kind, 1), 0, 1]
            y = [minus_top, 1, top]
            told = ref.line(kind, x, y)
            self.assertEqual(told, [28, ref.infinite(kind), 0])
            self.assertEqual(line(kind, x, y), told)


class EachKind(unittest.TestCase):
    def test_scattered_rows(self):
        for kind in ref.KINDS:
            middle = 2 ** (ref.BITS[kind][0] - 1)
            for n in (2, 3, 7, 40):
                for low, high in ((0, None), (middle - 3, middle + 3), (0, 2), (middle // 2, middle), (middle, middle + 1)):
                    x = ref.spread_cells(kind, n, 10 * kind + n, low, high)
                    y = ref.spread_cells(kind, n, 10 * kind + n + 1, low, high)
                    self.assertEqual(line(kind, x, y), ref.line(kind, x, y))
                    self.assertEqual(line(kind, y, x), ref.line(kind, y, x))

    def test_what_is_told_lies_where_the_sums_are_0(self):
        # Promise 3, of the numbers that the reference rounds.
        for kind in ref.KINDS:
            x = [ref.number(kind, cell) for cell in ref.spread_cells(kind, 9, kind)]
            y = [ref.number(kind, cell) for cell in ref.spread_cells(kind, 9, kind + 1)]
            slope, height = ref.exact_line(x, y)
            self.assertEqual(sum(b - height - slope * a for a, b in zip(x, y)), 0)
            self.assertEqual(sum((b - height - slope * a) * a for a, b in zip(x, y)), 0)

    def test_the_slope_has_the_covariance_s_sign(self):
        for kind in ref.KINDS:
            middle = 2 ** (ref.BITS[kind][0] - 1)
            for seed in range(10):
                x = ref.spread_cells(kind, 5, seed, middle - 2, middle + 2)
                y = ref.spread_cells(kind, 5, seed + 50, middle - 2, middle + 2)
                signs = {call(kind, x, y)[1] >= ref.sign_bit(kind) for call in (cov, corr, line)}
                self.assertEqual(len(signs), 1)

    def test_all_orders_of_the_pairs(self):
        for kind in ref.KINDS:
            top = ref.greatest(kind)
            x = [top, ref.cell_of(kind, -2.0), 3, ref.negative(kind, top), ref.cell_of(kind, 1.0)]
            y = [ref.cell_of(kind, 3.0), 1, top, ref.cell_of(kind, 2.0), ref.cell_of(kind, -0.5)]
            told = ref.line(kind, x, y)
            for pairs in itertools.permutations(list(zip(x, y))):
                self.assertEqual(line(kind, [a for a, b in pairs], [b for a, b in pairs]), told)


class NoneAndInfinite(unittest.TestCase):
    def test_in_x_and_in_y(self):
        for kind in ref.KINDS:
            one = ref.cell_of(kind, 1.0)
            told = [0, ref.none(kind), ref.none(kind)]
            for cell in ref.odd_cells(kind):
                self.assertEqual(line(kind, [one, cell], [one, 0]), told)
                self.assertEqual(line(kind, [one, 0], [cell, one]), told)
                self.assertEqual(line(kind, [cell, one, 0], [0, 0, cell]), told)

    def test_also_where_c2_is_0_of_the_other_row(self):
        for kind in ref.KINDS:
            one = ref.cell_of(kind, 1.0)
            told = [0, ref.none(kind), ref.none(kind)]
            for cell in ref.odd_cells(kind):
                self.assertEqual(line(kind, [one, cell], [one, one]), told)
                self.assertEqual(line(kind, [one, one], [one, cell]), told)
                self.assertEqual(line(kind, [0, ref.sign_bit(kind)], [cell, one]), told)
                self.assertEqual(line(kind, [cell], [0]), told)
                self.assertEqual(line(kind, [0], [cell]), told)
                self.assertEqual(line(kind, [cell, cell], [cell, cell]), told)


class Refusals(refused.TwoRows, unittest.TestCase):
    call = staticmethod(line)

    def test_the_longest_rows(self):
        for kind in ref.KINDS:
            two = ref.cell_of(kind, 2.0)
            self.assertEqual(line(kind, [1] * 4095 + [2], [2] * 4095 + [4]), [0, two, 0])

    def test_c2_0_of_x(self):
        for kind in ref.KINDS:
            one, minus_nought, top = ref.cell_of(kind, 1.0), ref.sign_bit(kind), ref.greatest(kind)
            for row in ([one] * 3, [0, minus_nought, 0], [top] * 3, [1] * 3):
                for other in ([1, 2, 3], [one, 0, one], row):
                    self.assertEqual(line(kind, row, other), [-4])
            for cell in (0, one, top):
                self.assertEqual(line(kind, [cell], [cell]), [-4])

    def test_c2_0_of_y_alone_is_answered(self):
        for kind in ref.KINDS:
            one = ref.cell_of(kind, 1.0)
            for x in ([1, 2, 3], [one, 0, one], [ref.greatest(kind), 0, 5]):
                for cell in (one, 1, ref.greatest(kind), ref.negative(kind, one)):
                    self.assertEqual(line(kind, x, [cell] * 3), [0, 0, cell])
