"""Section 1: how an exact number becomes a cell, and with which flags."""

import unittest

from exactrows.figures import mean, moments, weigh
from tests import reference as ref


class Halfway(unittest.TestCase):
    def test_to_the_even_cell(self):
        for kind in ref.KINDS:
            one = ref.cell_of(kind, 1.0)
            for cell, even in ((one, one), (one + 1, one + 2), (one + 2, one + 2), (one + 3, one + 4)):
                self.assertEqual(mean(kind, [cell, cell + 1]), [16, even])
                minus = [ref.negative(kind, cell), ref.negative(kind, cell + 1)]
                self.assertEqual(mean(kind, minus), [16, ref.negative(kind, even)])

    def test_beside_a_power_of_two(self):
        for kind in ref.KINDS:
            two = ref.cell_of(kind, 2.0)
            self.assertEqual(mean(kind, [two - 1, two]), [16, two])
            self.assertEqual(mean(kind, [two, two + 1]), [16, two])

    def test_thirds_go_to_the_nearer_cell(self):
        for kind in ref.KINDS:
            one = ref.cell_of(kind, 1.0)
            self.assertEqual(mean(kind, [one, one + 1, one + 1]), [16, one + 1])
            self.assertEqual(mean(kind, [one + 1, one + 1, one + 2]), [16, one + 1])
            self.assertEqual(mean(kind, [one + 1, one + 2, one + 2]), [16, one + 2])

    def test_the_least_number_beside_halfway_decides(self):
        for kind in ref.KINDS:
            one = ref.cell_of(kind, 1.0)
            half_step = ref.rounded(kind, (ref.number(kind, one + 1) - 1) / 2)[1]
            weights = [one, one, ref.negative(kind, one)]
            least = 1
            minus_least = ref.negative(kind, least)
            self.assertEqual(weigh(kind, [one, half_step, 0], weights), [16, one])
            self.assertEqual(weigh(kind, [one, half_step, minus_least], weights), [16, one + 1])
            self.assertEqual(weigh(kind, [one + 1, half_step, 0], weights), [16, one + 2])
            self.assertEqual(weigh(kind, [one + 1, half_step, least], weights), [16, one + 1])


class Exact(unittest.TestCase):
    def test_no_flags(self):
        for kind in ref.KINDS:
            for cell in (1, 2, 3, ref.least_ordinary(kind) - 1, ref.least_ordinary(kind), ref.cell_of(kind, 1.0) + 1,
                         ref.greatest(kind)):
                for told in (cell, ref.negative(kind, cell)):
                    self.assertEqual(mean(kind, [told]), [0, told])
                    self.assertEqual(mean(kind, [told] * 7), [0, told])

    def test_nought_is_the_cell_0(self):
        for kind in ref.KINDS:
            minus_nought = ref.sign_bit(kind)
            one = ref.cell_of(kind, 1.0)
            minus_one = ref.negative(kind, one)
            for row in ([0], [minus_nought], [minus_nought, minus_nought], [0, minus_nought], [one, minus_one],
                        [minus_one, one, minus_nought], [1, ref.negative(kind, 1)]):
                self.assertEqual(mean(kind, row), [0, 0])
            self.assertEqual(moments(kind, [minus_nought]), [0, 0, 0, ref.none(kind), 0, 0])
            self.assertEqual(moments(kind, [minus_nought] * 3), [0, 0, 0, 0, 0, 0])
            self.assertEqual(weigh(kind, [minus_nought, 0], [minus_one, minus_one]), [0, 0])
            self.assertEqual(weigh(kind, [one, minus_nought], [minus_nought, minus_one]), [0, 0])


class TooGreat(unittest.TestCase):
    def test_far_too_great(self):
        for kind in ref.KINDS:
            top = ref.greatest(kind)
            one = ref.cell_of(kind, 1.0)
            # top times top by the sum of the weights, which is 1.
            weights = [top, ref.negative(kind, top), one]
            minus_top = ref.negative(kind, top)
            self.assertEqual(weigh(kind, [top, 0, 0], weights), [20, ref.infinite(kind)])
            self.assertEqual(weigh(kind, [minus_top, 0, 0], weights), [20, ref.negative(kind, ref.infinite(kind))])

    def test_on_both_sides_of_halfway_to_the_next_power(self):
        for kind in ref.KINDS:
            top = ref.greatest(kind)
            one = ref.cell_of(kind, 1.0)
            half_step = ref.rounded(kind, (ref.number(kind, top) - ref.number(kind, top - 1)) / 2)[1]
            weights = [one, one, ref.negative(kind, one)]
            for flip in (0, ref.sign_bit(kind)):
                infinite = ref.infinite(kind) ^ flip
                row = [top ^ flip, half_step ^ flip]
                self.assertEqual(weigh(kind, row + [0], weights), [20, infinite])
                self.assertEqual(weigh(kind, row + [1 ^ flip], weights), [16, top ^ flip])
                self.assertEqual(weigh(kind, row + [ref.negative(kind, 1) ^ flip], weights), [20, infinite])

    def test_just_the_next_power_of_two(self):
        for kind in ref.KINDS:
            half_of_it = ref.infinite(kind) - ref.least_ordinary(kind)
            one = ref.cell_of(kind, 1.0)
            weights = [one, one, ref.negative(kind, one)]
            self.assertEqual(weigh(kind, [half_of_it, half_of_it, 0], weights), [20, ref.infinite(kind)])

    def test_a_mean_of_the_greatest_is_the_greatest(self):
        for kind in ref.KINDS:
            top = ref.greatest(kind)
            self.assertEqual(mean(kind, [top] * 4096), [0, top])
            self.assertEqual(mean(kind, [top, top - 1]), [16, top - 1])


class BelowTheLeastOrdinary(unittest.TestCase):
    def test_exact_ones_have_no_flag(self):
        for kind in ref.KINDS:
            last = ref.least_ordinary(kind) - 1
            self.assertEqual(mean(kind, [2, 4]), [0, 3])
            self.assertEqual(mean(kind, [0, 2]), [0, 1])
            self.assertEqual(mean(kind, [last - 1, last + 1]), [0, last])
            self.assertEqual(mean(kind, [ref.negative(kind, 1), ref.negative(kind, 5)]), [0, ref.negative(kind, 3)])

    def test_ones_that_are_not_exact(self):
        for kind in ref.KINDS:
            self.assertEqual(mean(kind, [1, 2]), [24, 2])
            self.assertEqual(mean(kind, [2, 3]), [24, 2])
            self.assertEqual(mean(kind, [1, 1, 2]), [24, 1])
            self.assertEqual(mean(kind, [ref.negative(kind, 2), ref.negative(kind, 3)]), [24, ref.negative(kind, 2)])

    def test_ones_that_round_to_nought(self):
        for kind in ref.KINDS:
            minus_nought = ref.sign_bit(kind)
            minus_least = ref.negative(kind, 1)
            self.assertEqual(mean(kind, [0, 1]), [24, 0])
            self.assertEqual(mean(kind, [0, minus_least]), [24, minus_nought])
            self.assertEqual(mean(kind, [0, 0, 0, 1]), [24, 0])
            self.assertEqual(mean(kind, [0, 0, 0, minus_least]), [24, minus_nought])
            self.assertEqual(mean(kind, [0] * 4095 + [minus_least]), [24, minus_nought])

    def test_ones_just_above_half_the_least_number(self):
        for kind in ref.KINDS:
            self.assertEqual(mean(kind, [0, 1, 1]), [24, 1])
            self.assertEqual(mean(kind, [0, ref.negative(kind, 1), ref.negative(kind, 1)]), [24, ref.negative(kind, 1)])

    def test_ones_that_round_up_to_just_the_least_ordinary(self):
        for kind in ref.KINDS:
            least = ref.least_ordinary(kind)
            # So many cells of which one is the last below: that part of the unit is missing.
            for n, flags in ((2, 24), (3, 24), (4, 16), (5, 16), (4096, 16)):
                row = [least - 1] + [least] * (n - 1)
                self.assertEqual(mean(kind, row), [flags, least])
                minus = [ref.negative(kind, cell) for cell in row]
                self.assertEqual(mean(kind, minus), [flags, ref.negative(kind, least)])
            # 4/15 is more than a quarter, 1023/4093 less.
            self.assertEqual(mean(kind, [least - 1] * 4 + [least] * 11), [24, least])
            self.assertEqual(mean(kind, [least - 1] * 1023 + [least] * 3070), [16, least])

    def test_ones_that_stay_below(self):
        for kind in ref.KINDS:
            least = ref.least_ordinary(kind)
            self.assertEqual(mean(kind, [least - 1, least - 1, least]), [24, least - 1])
            self.assertEqual(mean(kind, [least - 2, least - 1]), [24, least - 2])

    def test_ones_just_above_the_least_ordinary(self):
        for kind in ref.KINDS:
            least = ref.least_ordinary(kind)
            self.assertEqual(mean(kind, [least, least + 1]), [16, least])
            self.assertEqual(mean(kind, [least, least, least + 1]), [16, least])


class Scattered(unittest.TestCase):
    """Quotients of many sizes, each against the reference."""

    def test_by_weighing_one_cell_against_nought(self):
        for kind in ref.KINDS:
            cells = ref.spread_cells(kind, 360, kind)
            for i in range(0, 360, 3):
                x = [cells[i], 0]
                w = [cells[i + 1], cells[i + 2]]
                self.assertEqual(weigh(kind, x, w), ref.weigh(kind, x, w))

    def test_near_the_least_ordinary(self):
        for kind in ref.KINDS:
            cells = ref.spread_cells(kind, 200, kind + 50, 0, 3)
            for i in range(0, 200, 5):
                for n in (2, 3, 5):
                    self.assertEqual(mean(kind, cells[i:i + n]), ref.mean(kind, cells[i:i + n]))
