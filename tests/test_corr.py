"""Call 11: corr."""

import itertools
import math
import unittest
from fractions import Fraction

from exactrows.figures import corr
from tests import reference as ref
from tests import refused


def whole_cell(kind, number, power=0):
    """The cell of a whole number times 2 to the power, which the kind must hold exactly."""
    flags, cell = ref.rounded(kind, Fraction(number) * Fraction(2) ** power)
    if flags != 0:
        raise ValueError(f"kind {kind} doesn't hold {number} times 2 to the {power}")
    return cell


def squares_of(kind, total):
    """Whole numbers of as many bits as the kind's fractions have, whose squares add up to the total."""
    numbers = []
    while total > 0:
        root = math.isqrt(total)
        spare = max(root.bit_length() - ref.BITS[kind][1] - 1, 0)
        root = root >> spare << spare
        numbers.append(root)
        total -= root * root
    return numbers


def rows_with(kind, whole, extra, power=0, shift=0):
    """Rows whose corr is whole 2^shift / (2 root of extra): x has four ones, the squares of y's numbers add up to
    extra and the first four to whole 2^shift. Each number stands there with its opposite too, so the means are 0.

    All of y is taken times 2 to the power, which changes nothing in corr but brings it into the kind.
    """
    quarter, rest = divmod(whole, 4)
    first = [(quarter + (i < rest)) << shift for i in range(4)]
    others = squares_of(kind, extra - sum(number * number for number in first))
    numbers = first + others
    x = [1] * 4 + [0] * len(others)
    both = [(a * side, b * side) for a, b in zip(x, numbers) for side in (1, -1)]
    return [whole_cell(kind, a) for a, b in both], [whole_cell(kind, b, power) for a, b in both]


def minus(kind, row):
    return [ref.negative(kind, cell) for cell in row]


class WorkedOutByHand(unittest.TestCase):
    def test_exactly_1_and_minus_1(self):
        for kind in ref.KINDS:
            one, minus_one = ref.row_of(kind, [1.0, -1.0])
            x = ref.row_of(kind, [1.0, 2.0, 4.0])
            for y in ([1.0, 2.0, 4.0], [2.0, 4.0, 8.0], [5.0, 6.0, 8.0], [-1.5, -1.25, -0.75]):
                y = ref.row_of(kind, y)
                self.assertEqual(corr(kind, x, y), [0, one])
                self.assertEqual(corr(kind, x, minus(kind, y)), [0, minus_one])
            self.assertEqual(corr(kind, [1, 2, 3], x[:2] + [ref.cell_of(kind, 3.0)]), [0, one])
            top = ref.greatest(kind)
            self.assertEqual(corr(kind, [top, ref.negative(kind, top)], [1, 2]), [0, minus_one])
            self.assertEqual(corr(kind, [0, ref.sign_bit(kind), 1], [top, top, 0]), [0, minus_one])

    def test_a_row_with_itself(self):
        for kind in ref.KINDS:
            one = ref.cell_of(kind, 1.0)
            for n in (2, 3, 10, 50):
                x = ref.spread_cells(kind, n, kind + n)
                self.assertEqual(corr(kind, x, x), [0, one])
                self.assertEqual(corr(kind, x, minus(kind, x)), [0, ref.negative(kind, one)])

    def test_one_half(self):
        # 1, 0, -1 and 1, -1, 0: 1 / root of 2 * 2
        for kind in ref.KINDS:
            x, y = ref.row_of(kind, [1.0, 0.0, -1.0]), ref.row_of(kind, [1.0, -1.0, 0.0])
            self.assertEqual(corr(kind, x, y), [0, ref.cell_of(kind, 0.5)])
            self.assertEqual(corr(kind, minus(kind, x), y), [0, ref.cell_of(kind, -0.5)])

    def test_a_root_of_one_half(self):
        # 1, -1, 0, 0 and 1, -1, 1, -1: 2 / root of 2 * 4
        x, y = [1.0, -1.0, 0.0, 0.0], [1.0, -1.0, 1.0, -1.0]
        self.assertEqual(corr(9, ref.row_of(9, x), ref.row_of(9, y)), [16, 0x39A8])
        self.assertEqual(corr(10, ref.row_of(10, x), ref.row_of(10, y)), [16, 0x3F35])
        self.assertEqual(corr(11, ref.row_of(11, x), ref.row_of(11, y)), [16, 0x3F3504F3])
        self.assertEqual(corr(12, ref.row_of(12, x), ref.row_of(12, y)), [16, 0x3FE6A09E667F3BCD])
        self.assertEqual(corr(12, ref.row_of(12, y), minus(12, ref.row_of(12, x))), [16, 0xBFE6A09E667F3BCD])

    def test_a_fraction_that_is_not_exact(self):
        # 1, -1, 0, 0 with 1, -1, 2, -2 and those again: 3/5 of the one, 4/5 of the other
        for kind in ref.KINDS:
            x = ref.row_of(kind, [1.0, -1.0, 0.0, 0.0])
            for y, told in (([3.0, -3.0, 4.0, -4.0], (3, 5)), ([4.0, -4.0, -3.0, 3.0], (4, 5)), ([-3.0, 3.0, 4.0, -4.0], (-3, 5))):
                y = ref.row_of(kind, y)
                self.assertEqual(corr(kind, x, y), list(ref.rounded(kind, Fraction(*told))))
                self.assertEqual(corr(kind, x, y)[0], 16)

    def test_nought(self):
        for kind in ref.KINDS:
            x = ref.row_of(kind, [-1.0, 0.0, 1.0])
            for y in ([1.0, 0.0, 1.0], [1.0, -2.0, 1.0], [-1.0, 5.0, -1.0]):
                self.assertEqual(corr(kind, x, ref.row_of(kind, y)), [0, 0])
                self.assertEqual(corr(kind, ref.row_of(kind, y), minus(kind, x)), [0, 0])


class NearTheMiddleOfTwoCells(unittest.TestCase):
    """With k = m + 1 and squares that add up to 4^k, corr is whole / 2^(k + 1): odd ones are just in the middle."""

    def wholes(self, kind):
        """Odd numbers from 2^k up, of either kind of remainder by 4, so that both neighbours are even once."""
        k = ref.BITS[kind][1] + 1
        step = 2 ** k // 5
        return [number | 1 for number in (2 ** k, 2 ** k + 2, 2 ** k + step, 2 ** k + 2 * step + 2, 2 ** k + 3 * step)]

    def test_just_in_the_middle(self):
        for kind in ref.KINDS:
            k = ref.BITS[kind][1] + 1
            half = ref.cell_of(kind, 0.5)
            for whole in self.wholes(kind):
                x, y = rows_with(kind, whole, 4 ** k)
                told = half + (whole - 2 ** k) // 2
                even = told + told % 2
                self.assertEqual(corr(kind, x, y), [16, even])
                self.assertEqual(corr(kind, minus(kind, x), y), [16, ref.negative(kind, even)])
                self.assertEqual(corr(kind, y, x), [16, even])

    def test_just_at_a_cell(self):
        for kind in ref.KINDS:
            k = ref.BITS[kind][1] + 1
            half = ref.cell_of(kind, 0.5)
            for whole in self.wholes(kind):
                x, y = rows_with(kind, whole - 1, 4 ** k)
                told = half + (whole - 1 - 2 ** k) // 2
                self.assertEqual(corr(kind, x, y), [0, told])
                self.assertEqual(corr(kind, x, minus(kind, y)), [0, ref.negative(kind, told)])

    def test_beside_the_middle_and_beside_a_cell(self):
        for kind in ref.KINDS:
            k = ref.BITS[kind][1] + 1
            half = ref.cell_of(kind, 0.5)
            for whole in self.wholes(kind):
                below = half + (whole - 2 ** k) // 2
                # A greater root below makes the number less than the middle.
                for extra, told in ((4 ** k + 1, below), (4 ** k - 1, below + 1)):
                    x, y = rows_with(kind, whole, extra)
                    self.assertEqual(corr(kind, x, y), [16, told])
                    self.assertEqual(corr(kind, minus(kind, x), y), [16, ref.negative(kind, told)])
                for extra in (4 ** k + 1, 4 ** k - 1):
                    x, y = rows_with(kind, whole - 1, extra)
                    self.assertEqual(corr(kind, x, y), [16, below])

    def test_far_nearer(self):
        # The square of the root differs from a whole square in one of so many hundred bits.
        for kind, shift in ((9, 12), (10, 100), (11, 100), (12, 400)):
            k = ref.BITS[kind][1] + 1
            half = ref.cell_of(kind, 0.5)
            for whole in self.wholes(kind)[1:4]:
                below = half + (whole - 2 ** k) // 2
                for step, told in ((1, [16, below]), (0, [16, below + below % 2]), (-1, [16, below + 1])):
                    x, y = rows_with(kind, whole, 4 ** (k + shift) + step, -shift, shift)
                    self.assertEqual(corr(kind, x, y), told)
                for step, told in ((1, [16, below]), (0, [0, below]), (-1, [16, below])):
                    x, y = rows_with(kind, whole - 1, 4 ** (k + shift) + step, -shift, shift)
                    self.assertEqual(corr(kind, x, y), told)

    def test_just_below_1(self):
        for kind in ref.KINDS:
            one = ref.cell_of(kind, 1.0)
            m = ref.BITS[kind][1]
            # 1 / root of (1 + 2^-2j): from some j on nearer to 1 than to the cell below.
            for j in range(1, m + 2):
                x = ref.row_of(kind, [1.0, -1.0, 0.0, 0.0])
                y = ref.row_of(kind, [1.0, -1.0, 2.0 ** -j, -2.0 ** -j])
                got = corr(kind, x, y)
                self.assertEqual(got, ref.corr(kind, x, y))
                self.assertEqual(got[0], 16)
                self.assertLessEqual(got[1], one)
            self.assertEqual(got, [16, one])


class VerySmall(unittest.TestCase):
    def rows(self, kind, tiny, great):
        """corr is tiny / root of (tiny^2 + great^2)."""
        one, minus_one = ref.row_of(kind, [1.0, -1.0])
        return [one, minus_one, 0, 0], [tiny, ref.negative(kind, tiny), great, ref.negative(kind, great)]

    def test_about_the_least_ordinary_number(self):
        for kind in ref.KINDS:
            one, least = ref.cell_of(kind, 1.0), ref.least_ordinary(kind)
            for tiny in (1, 2, 3, 7, least - 1, least, least + 1, 2 * least):
                x, y = self.rows(kind, tiny, one)
                # A little less than tiny.
                told = [24 if tiny < least else 16, tiny]
                self.assertEqual(ref.corr(kind, x, y), told)
                self.assertEqual(corr(kind, x, y), told)
                self.assertEqual(corr(kind, x, minus(kind, y)), [told[0], ref.negative(kind, tiny)])

    def test_half_the_least_number_and_beside_it(self):
        for kind in ref.KINDS:
            two = ref.cell_of(kind, 2.0)
            for tiny, great in ((1, two), (3, two), (5, two), (1, two - 1), (3, two - 1), (1, two + 1)):
                x, y = self.rows(kind, tiny, great)
                got = corr(kind, x, y)
                self.assertEqual(got, ref.corr(kind, x, y))
                self.assertEqual(got[0], 24)
            # A little less than half.
            x, y = self.rows(kind, 1, two)
            self.assertEqual(corr(kind, x, y), [24, 0])
            self.assertEqual(corr(kind, x, minus(kind, y)), [24, ref.sign_bit(kind)])
            x, y = self.rows(kind, 1, two - 1)
            self.assertEqual(corr(kind, x, y), [24, 1])
            # A little less than one and a half.
            x, y = self.rows(kind, 3, two)
            self.assertEqual(corr(kind, x, y), [24, 1])

    def parts_of_the_least(self, kind, whole, bits, step=0):
        """What corr tells where it is whole / 2^bits of the least number, or a very little less (step 1) or more (-1)."""
        e, m = ref.BITS[kind]
        depth = 2 ** (e - 1) - 2 + m
        x, y = rows_with(kind, whole, 4 ** (depth + bits - 1) + step, -depth)
        got = corr(kind, x, y)
        self.assertEqual(corr(kind, y, minus(kind, x)), [got[0], ref.negative(kind, got[1])])
        return got

    def test_exact_ones(self):
        for kind in ref.KINDS:
            least = ref.least_ordinary(kind)
            for whole in (1, 2, 3, 5, least - 1, least, least + 1, 2 * least - 1):
                self.assertEqual(self.parts_of_the_least(kind, whole, 0), [0, whole])

    def test_beside_exact_ones(self):
        for kind in ref.KINDS:
            least = ref.least_ordinary(kind)
            for step in (1, -1):
                for whole in (1, 2, 3, 5, least - 1):
                    self.assertEqual(self.parts_of_the_least(kind, whole, 0, step), [24, whole])
                for whole in (least, least + 1):
                    self.assertEqual(self.parts_of_the_least(kind, whole, 0, step), [16, whole])

    def test_the_middle_of_two_and_beside_it(self):
        for kind in ref.KINDS:
            for below in (0, 1, 2, 3, ref.least_ordinary(kind) - 1):
                whole = 2 * below + 1
                self.assertEqual(self.parts_of_the_least(kind, whole, 1), [24, below + below % 2])
                self.assertEqual(self.parts_of_the_least(kind, whole, 1, 1), [24, below])
                self.assertEqual(self.parts_of_the_least(kind, whole, 1, -1), [24, below + 1])

    def test_up_to_just_the_least_ordinary_number(self):
        for kind in ref.KINDS:
            least = ref.least_ordinary(kind)
            # A quarter of the least number is missing: with one bit more that is rounded up, and a little less isn't.
            self.assertEqual(self.parts_of_the_least(kind, 4 * least - 1, 2), [16, least])
            self.assertEqual(self.parts_of_the_least(kind, 4 * least - 1, 2, -1), [16, least])
            self.assertEqual(self.parts_of_the_least(kind, 4 * least - 1, 2, 1), [24, least])

    def test_far_below(self):
        for kind in ref.KINDS:
            x, y = self.rows(kind, 1, ref.greatest(kind))
            self.assertEqual(corr(kind, x, y), [24, 0])
            self.assertEqual(corr(kind, x, minus(kind, y)), [24, ref.sign_bit(kind)])
            self.assertEqual(corr(kind, y, x), [24, 0])


class EachKind(unittest.TestCase):
    def test_scattered_rows(self):
        for kind in ref.KINDS:
            middle = 2 ** (ref.BITS[kind][0] - 1)
            for n in (2, 3, 7, 40):
                for low, high in ((0, None), (middle - 3, middle + 3), (0, 2), (middle // 2, middle), (middle, middle + 1)):
                    x = ref.spread_cells(kind, n, 10 * kind + n, low, high)
                    y = ref.spread_cells(kind, n, 10 * kind + n + 1, low, high)
                    got = corr(kind, x, y)
                    self.assertEqual(got, ref.corr(kind, x, y))
                    self.assertEqual(corr(kind, y, x), got)
                    # Promise 3: between -1 and 1.
                    self.assertLessEqual(abs(ref.number(kind, got[1])), 1)

    def test_rows_of_different_sizes(self):
        for kind in ref.KINDS:
            e = ref.BITS[kind][0]
            for n in (3, 9):
                x = ref.spread_cells(kind, n, kind, 0, 3)
                y = ref.spread_cells(kind, n, kind + 1, 2 ** e - 4, None)
                self.assertEqual(corr(kind, x, y), ref.corr(kind, x, y))

    def test_all_orders_of_the_pairs(self):
        for kind in ref.KINDS:
            top = ref.greatest(kind)
            x = [top, ref.cell_of(kind, -2.0), 3, ref.negative(kind, top), ref.cell_of(kind, 1.0)]
            y = [ref.cell_of(kind, 3.0), 1, top, ref.cell_of(kind, 2.0), ref.cell_of(kind, -0.5)]
            told = ref.corr(kind, x, y)
            for pairs in itertools.permutations(list(zip(x, y))):
                self.assertEqual(corr(kind, [a for a, b in pairs], [b for a, b in pairs]), told)


class NoneAndInfinite(unittest.TestCase):
    def test_in_x_and_in_y(self):
        for kind in ref.KINDS:
            one = ref.cell_of(kind, 1.0)
            told = [0, ref.none(kind)]
            for cell in ref.odd_cells(kind):
                self.assertEqual(corr(kind, [one, cell], [one, 0]), told)
                self.assertEqual(corr(kind, [one, 0], [cell, one]), told)
                self.assertEqual(corr(kind, [cell, one, 0], [0, 0, cell]), told)

    def test_also_where_c2_is_0_of_the_other_row(self):
        for kind in ref.KINDS:
            one = ref.cell_of(kind, 1.0)
            told = [0, ref.none(kind)]
            for cell in ref.odd_cells(kind):
                self.assertEqual(corr(kind, [one, cell], [one, one]), told)
                self.assertEqual(corr(kind, [0, ref.sign_bit(kind)], [cell, one]), told)
                self.assertEqual(corr(kind, [cell], [0]), told)
                self.assertEqual(corr(kind, [0], [cell]), told)
                self.assertEqual(corr(kind, [cell, cell], [cell, cell]), told)


class Refusals(refused.TwoRows, unittest.TestCase):
    call = staticmethod(corr)

    def test_the_longest_rows(self):
        for kind in ref.KINDS:
            one = ref.cell_of(kind, 1.0)
            self.assertEqual(corr(kind, [1] * 4095 + [2], [2] * 4095 + [4]), [0, one])

    def test_c2_0(self):
        for kind in ref.KINDS:
            one, minus_nought, top = ref.cell_of(kind, 1.0), ref.sign_bit(kind), ref.greatest(kind)
            for row in ([one] * 3, [0, minus_nought, 0], [top] * 3, [1] * 3):
                for other in ([1, 2, 3], [one, 0, one], row):
                    self.assertEqual(corr(kind, row, other), [-4])
                    self.assertEqual(corr(kind, other, row), [-4])
            for cell in (0, one, top):
                self.assertEqual(corr(kind, [cell], [cell]), [-4])
