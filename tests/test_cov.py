"""Call 9: cov."""

import itertools
import unittest

from exactrows.figures import cov, moments
from tests import reference as ref
from tests import refused


class WorkedOutByHand(unittest.TestCase):
    def test_exact_ones(self):
        # 1, 2 and 1, 3: half of 0.5 * 1 twice
        self.assertEqual(cov(9, [0x3C00, 0x4000], [0x3C00, 0x4200]), [0, 0x3800])
        for kind in ref.KINDS:
            x = ref.row_of(kind, [1.0, 2.0, 3.0, 4.0])
            # Means 2.5 and 4: -1.5 * -4 - 0.5 * 0 + 0.5 * 4 + 1.5 * 0 = 8, by 4
            self.assertEqual(cov(kind, x, ref.row_of(kind, [0.0, 4.0, 8.0, 4.0])), [0, ref.cell_of(kind, 2.0)])
            self.assertEqual(cov(kind, x, ref.row_of(kind, [0.0, -4.0, -8.0, -4.0])), [0, ref.cell_of(kind, -2.0)])

    def test_ones_that_are_not_exact(self):
        # 0, 0, 1 with itself: 2/9
        self.assertEqual(cov(9, [0, 0, 0x3C00], [0, 0, 0x3C00]), [16, 0x331C])
        for kind in ref.KINDS:
            x = ref.row_of(kind, [0.0, 0.0, 1.0])
            for y in ([0.0, 0.0, 1.0], [1.0, 0.0, 0.0], [5.0, 3.0, -7.0]):
                got = cov(kind, x, ref.row_of(kind, y))
                self.assertEqual(got, ref.cov(kind, x, ref.row_of(kind, y)))
                self.assertEqual(got[0], 16)

    def test_nought(self):
        for kind in ref.KINDS:
            one = ref.cell_of(kind, 1.0)
            minus_nought = ref.sign_bit(kind)
            for x, y in (([one], [one]), ([minus_nought], [minus_nought]), ([one, 5], [one, one]), ([one] * 3, [1, 2, 9]),
                         (ref.row_of(kind, [-1.0, 0.0, 1.0]), ref.row_of(kind, [1.0, 0.0, 1.0])),
                         ([0, minus_nought], [1, ref.greatest(kind)])):
                self.assertEqual(cov(kind, x, y), [0, 0])
                self.assertEqual(cov(kind, y, x), [0, 0])


class Rounded(unittest.TestCase):
    def test_too_great(self):
        for kind in ref.KINDS:
            top = ref.greatest(kind)
            minus_top, infinite = ref.negative(kind, top), ref.infinite(kind)
            self.assertEqual(cov(kind, [top, minus_top], [top, minus_top]), [20, infinite])
            self.assertEqual(cov(kind, [top, minus_top], [minus_top, top]), [20, ref.negative(kind, infinite)])
            # With a half-way part of 1: just the greatest number, not too great.
            self.assertEqual(cov(kind, [top, minus_top], ref.row_of(kind, [1.0, -1.0])), [0, top])

    def test_below_the_least_ordinary_number(self):
        for kind in ref.KINDS:
            one, minus_one = ref.cell_of(kind, 1.0), ref.cell_of(kind, -1.0)
            # The least number times 1, exact; a quarter, a half, three quarters of it.
            self.assertEqual(cov(kind, [1, ref.negative(kind, 1)], [one, minus_one]), [0, 1])
            self.assertEqual(cov(kind, [1, 0], [one, 0]), [24, 0])
            self.assertEqual(cov(kind, [1, 0], [minus_one, 0]), [24, ref.sign_bit(kind)])
            self.assertEqual(cov(kind, [1, 0], [one, minus_one]), [24, 0])
            self.assertEqual(cov(kind, [3, 0], [one, 0]), [24, 1])
            self.assertEqual(cov(kind, [3, 0], [minus_one, 0]), [24, ref.negative(kind, 1)])
            self.assertEqual(cov(kind, [1, 2], [1, 2]), [24, 0])
            self.assertEqual(cov(kind, [1, 2], [2, 1]), [24, ref.sign_bit(kind)])

    def test_up_to_just_the_least_ordinary_number(self):
        for kind in ref.KINDS:
            least = ref.least_ordinary(kind)
            one, minus_one = ref.cell_of(kind, 1.0), ref.cell_of(kind, -1.0)
            # The mean of two sizes, as the second row's mean is 0.
            for sizes, told in (((least - 1, least), [24, least]), ((least, least + 1), [16, least])):
                self.assertEqual(cov(kind, [sizes[0], ref.negative(kind, sizes[1])], [one, minus_one]), told)

    def test_nothing_is_lost_beside_great_cells(self):
        for kind in ref.KINDS:
            top = ref.greatest(kind)
            x = [top, ref.negative(kind, top), 2, ref.negative(kind, 2)]
            y = ref.row_of(kind, [1.0, 1.0, 1.0, -3.0])
            # The great cells' parts cancel: (2 + 6) / 4 of the least number.
            self.assertEqual(cov(kind, x, y), [0, 2])


class EachKind(unittest.TestCase):
    def test_scattered_rows(self):
        for kind in ref.KINDS:
            middle = 2 ** (ref.BITS[kind][0] - 1)
            for n in (1, 2, 3, 7, 40):
                for low, high in ((0, None), (middle - 3, middle + 3), (0, 2), (middle // 2, middle)):
                    x = ref.spread_cells(kind, n, 10 * kind + n, low, high)
                    y = ref.spread_cells(kind, n, 10 * kind + n + 1, low, high)
                    self.assertEqual(cov(kind, x, y), ref.cov(kind, x, y))
                    self.assertEqual(cov(kind, y, x), ref.cov(kind, x, y))

    def test_a_row_with_itself_tells_its_c2(self):
        for kind in ref.KINDS:
            middle = 2 ** (ref.BITS[kind][0] - 1)
            for n in (1, 2, 3, 7, 40):
                for low, high in ((0, None), (middle - 3, middle + 3), (0, 2), (middle // 2, middle)):
                    x = ref.spread_cells(kind, n, 7 * kind + n, low, high)
                    got = cov(kind, x, x)
                    self.assertEqual(got[1], moments(kind, x)[2])
                    self.assertEqual(got, ref.cov(kind, x, x))

    def test_all_orders_of_the_pairs(self):
        for kind in ref.KINDS:
            top = ref.greatest(kind)
            x = [top, ref.cell_of(kind, -2.0), 3, ref.negative(kind, top), ref.cell_of(kind, 1.0)]
            y = [ref.cell_of(kind, 3.0), 1, top, ref.cell_of(kind, 2.0), ref.cell_of(kind, -0.5)]
            told = ref.cov(kind, x, y)
            for pairs in itertools.permutations(list(zip(x, y))):
                self.assertEqual(cov(kind, [a for a, b in pairs], [b for a, b in pairs]), told)

    def test_the_order_of_one_row_alone_does_count(self):
        for kind in ref.KINDS:
            x = ref.row_of(kind, [1.0, 2.0])
            self.assertEqual(cov(kind, x, ref.row_of(kind, [1.0, 3.0])), [0, ref.cell_of(kind, 0.5)])
            self.assertEqual(cov(kind, x, ref.row_of(kind, [3.0, 1.0])), [0, ref.cell_of(kind, -0.5)])


class NoneAndInfinite(unittest.TestCase):
    def test_in_x_and_in_y(self):
        for kind in ref.KINDS:
            one = ref.cell_of(kind, 1.0)
            told = [0, ref.none(kind)]
            for cell in ref.odd_cells(kind):
                self.assertEqual(cov(kind, [one, cell], [one, 0]), told)
                self.assertEqual(cov(kind, [one, 0], [cell, one]), told)
                self.assertEqual(cov(kind, [cell, one, 0], [0, 0, cell]), told)
                self.assertEqual(cov(kind, [cell], [0]), told)
                self.assertEqual(cov(kind, [0], [cell]), told)
                self.assertEqual(cov(kind, [cell], [cell]), told)


class Refusals(refused.TwoRows, unittest.TestCase):
    call = staticmethod(cov)

    def test_the_longest_rows(self):
        for kind in ref.KINDS:
            self.assertEqual(cov(kind, [1] * 4096, [2] * 4096), [0, 0])
