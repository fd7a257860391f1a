"""Call 3: weigh."""

import itertools
import unittest

from exactrows.figures import mean, weigh
from tests import reference as ref


class OrdinaryRows(unittest.TestCase):
    def test_worked_out_by_hand(self):
        # (1 * 1 + 2 * 3) / 4 = 1.75
        self.assertEqual(weigh(9, [0x3C00, 0x4000], [0x3C00, 0x4200]), [0, 0x3F00])
        self.assertEqual(weigh(10, [0x3F80, 0x4000], [0x3F80, 0x4040]), [0, 0x3FE0])
        self.assertEqual(weigh(11, ref.row_of(11, [1.0, 2.0]), ref.row_of(11, [1.0, 3.0])), [0, 0x3FE00000])
        self.assertEqual(weigh(12, ref.row_of(12, [1.0, 2.0]), ref.row_of(12, [1.0, 3.0])), [0, 0x3FFC000000000000])
        # (1 * 2 + 2 * 1) / 3 = 4/3
        self.assertEqual(weigh(9, [0x3C00, 0x4000], [0x4000, 0x3C00]), [16, 0x3D55])
        self.assertEqual(weigh(12, ref.row_of(12, [1.0, 2.0]), ref.row_of(12, [2.0, 1.0])),
                         [16, ref.cell_of(12, 4 / 3)])

    def test_scattered_rows_in_each_kind(self):
        for kind in ref.KINDS:
            for n in (1, 2, 3, 7, 40):
                x = ref.spread_cells(kind, n, 10 * kind + n)
                w = ref.spread_cells(kind, n, 10 * kind + n + 1)
                self.assertEqual(weigh(kind, x, w), ref.weigh(kind, x, w))

    def test_equal_weights_tell_the_mean(self):
        for kind in ref.KINDS:
            x = ref.spread_cells(kind, 9, kind)
            for weight in (1, ref.cell_of(kind, 3.0), ref.greatest(kind), ref.negative(kind, 1)):
                self.assertEqual(weigh(kind, x, [weight] * 9), mean(kind, x))

    def test_one_pair(self):
        for kind in ref.KINDS:
            for weight in (1, ref.cell_of(kind, -3.0), ref.greatest(kind)):
                cell = ref.cell_of(kind, -1.5)
                self.assertEqual(weigh(kind, [cell], [weight]), [0, cell])


class Weights(unittest.TestCase):
    def test_negative_ones(self):
        for kind in ref.KINDS:
            x = ref.row_of(kind, [1.0, 2.0])
            # (-1 + 6) / 2, (1 - 6) / -2, (-1 - 6) / -4, (3 - 2) / 2
            self.assertEqual(weigh(kind, x, ref.row_of(kind, [-1.0, 3.0])), [0, ref.cell_of(kind, 2.5)])
            self.assertEqual(weigh(kind, x, ref.row_of(kind, [1.0, -3.0])), [0, ref.cell_of(kind, 2.5)])
            self.assertEqual(weigh(kind, x, ref.row_of(kind, [-1.0, -3.0])), [0, ref.cell_of(kind, 1.75)])
            self.assertEqual(weigh(kind, x, ref.row_of(kind, [3.0, -1.0])), [0, ref.cell_of(kind, 0.5)])
            # (1 * 3 - 2 * 2) / 1 = -1: outside the cells that are weighted.
            self.assertEqual(weigh(kind, x, ref.row_of(kind, [3.0, -2.0])), [0, ref.cell_of(kind, -1.0)])

    def test_noughts_of_either_sign(self):
        for kind in ref.KINDS:
            x = ref.row_of(kind, [1.0, 2.0, -4.0])
            for nought in (0, ref.sign_bit(kind)):
                w = [nought, ref.cell_of(kind, 5.0), nought]
                self.assertEqual(weigh(kind, x, w), [0, ref.cell_of(kind, 2.0)])

    def test_sum_0_is_refused(self):
        for kind in ref.KINDS:
            x = ref.row_of(kind, [1.0, 2.0, 4.0])
            minus_nought = ref.sign_bit(kind)
            for w in ([0, 0, 0], [minus_nought] * 3, [0, minus_nought, 0], ref.row_of(kind, [1.0, -3.0, 2.0]),
                      [ref.greatest(kind), 0, ref.negative(kind, ref.greatest(kind))], [1, ref.negative(kind, 1), 0]):
                self.assertEqual(weigh(kind, x, w), [-4])
                self.assertEqual(weigh(kind, [0, minus_nought, 0], w), [-4])

    def test_a_sum_of_just_the_least_number(self):
        for kind in ref.KINDS:
            top = ref.greatest(kind)
            w = [top, 1, ref.negative(kind, top)]
            self.assertEqual(weigh(kind, [0, 7, 0], w), [0, 7])
            self.assertEqual(weigh(kind, [7, 7, 7], w), [0, 7])


class NoneAndInfinite(unittest.TestCase):
    def odd_cells(self, kind):
        infinite = ref.infinite(kind)
        sizes = (infinite, infinite + 1, ref.none(kind), ref.none(kind) + 1, ref.sign_bit(kind) - 1)
        return [cell for size in sizes for cell in (size, ref.negative(kind, size))]

    def test_in_x_and_in_w(self):
        for kind in ref.KINDS:
            one = ref.cell_of(kind, 1.0)
            for cell in self.odd_cells(kind):
                told = [0, ref.none(kind)]
                self.assertEqual(weigh(kind, [one, cell], [one, one]), told)
                self.assertEqual(weigh(kind, [one, one], [cell, one]), told)
                self.assertEqual(weigh(kind, [cell, one], [one, cell]), told)
                self.assertEqual(weigh(kind, [cell], [cell]), told)

    def test_with_a_weight_of_nought(self):
        for kind in ref.KINDS:
            one = ref.cell_of(kind, 1.0)
            for cell in self.odd_cells(kind):
                self.assertEqual(weigh(kind, [one, cell], [one, 0]), [0, ref.none(kind)])

    def test_no_refusal_where_the_numbers_among_the_weights_sum_to_0(self):
        for kind in ref.KINDS:
            one = ref.cell_of(kind, 1.0)
            minus_one = ref.negative(kind, one)
            for cell in self.odd_cells(kind):
                told = [0, ref.none(kind)]
                self.assertEqual(weigh(kind, [one, cell], [one, minus_one]), told)
                self.assertEqual(weigh(kind, [cell, one], [0, ref.sign_bit(kind)]), told)
                self.assertEqual(weigh(kind, [one, one, one], [one, cell, minus_one]), told)
            infinite = ref.infinite(kind)
            self.assertEqual(weigh(kind, [one, one], [infinite, ref.negative(kind, infinite)]), [0, ref.none(kind)])


class Order(unittest.TestCase):
    def test_all_orders_of_the_pairs(self):
        for kind in ref.KINDS:
            top = ref.greatest(kind)
            x = [top, ref.cell_of(kind, -2.0), 3, ref.negative(kind, top), ref.cell_of(kind, 1.0)]
            w = [ref.cell_of(kind, 3.0), 1, top, ref.cell_of(kind, -1.0), ref.cell_of(kind, -0.5)]
            told = ref.weigh(kind, x, w)
            for pairs in itertools.permutations(list(zip(x, w))):
                self.assertEqual(weigh(kind, [a for a, b in pairs], [b for a, b in pairs]), told)

    def test_the_order_of_one_row_alone_does_count(self):
        for kind in ref.KINDS:
            x = ref.row_of(kind, [1.0, 2.0])
            self.assertEqual(weigh(kind, x, ref.row_of(kind, [1.0, 3.0])), [0, ref.cell_of(kind, 1.75)])
            self.assertEqual(weigh(kind, x, ref.row_of(kind, [3.0, 1.0])), [0, ref.cell_of(kind, 1.25)])
