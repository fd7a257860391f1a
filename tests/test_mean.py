"""Call 1: mean."""

import itertools
import unittest

from exactrows.figures import mean
from tests import reference as ref


class OrdinaryRows(unittest.TestCase):
    def test_worked_out_by_hand(self):
        self.assertEqual(mean(9, [0x3C00, 0x4000]), [0, 0x3E00])
        self.assertEqual(mean(10, [0x3F80, 0x4000]), [0, 0x3FC0])
        self.assertEqual(mean(11, [0x3F800000, 0x40000000]), [0, 0x3FC00000])
        self.assertEqual(mean(12, [0x3FF0000000000000, 0x4000000000000000]), [0, 0x3FF8000000000000])
        # 4/3
        self.assertEqual(mean(9, [0x3C00, 0x3C00, 0x4000]), [16, 0x3D55])
        self.assertEqual(mean(10, [0x3F80, 0x3F80, 0x4000]), [16, 0x3FAB])
        self.assertEqual(mean(11, [0x3F800000, 0x3F800000, 0x40000000]), [16, 0x3FAAAAAB])
        self.assertEqual(mean(12, ref.row_of(12, [1.0, 1.0, 2.0])), [16, ref.cell_of(12, 4 / 3)])

    def test_small_rows_in_each_kind(self):
        rows = ([1.0], [-2.5], [1.0, 2.0, 4.0], [0.5, -0.25, 3.0, 7.0], [100.0, -100.0, 1.5], [1.0, 2.0, 3.0] * 7)
        for kind in ref.KINDS:
            for values in rows:
                x = ref.row_of(kind, values)
                self.assertEqual(mean(kind, x), ref.mean(kind, x))

    def test_scattered_rows_in_each_kind(self):
        for kind in ref.KINDS:
            for n in (1, 2, 3, 7, 50):
                x = ref.spread_cells(kind, n, 10 * kind + n)
                self.assertEqual(mean(kind, x), ref.mean(kind, x))

    def test_nothing_is_lost_beside_great_cells(self):
        for kind in ref.KINDS:
            top = ref.greatest(kind)
            self.assertEqual(mean(kind, [top, 3, ref.negative(kind, top)]), [0, 1])
            self.assertEqual(mean(kind, [3, top, top, ref.negative(kind, top), ref.negative(kind, top), 2]),
                             ref.mean(kind, [3, 2, 0, 0, 0, 0]))


class NoneAndInfinite(unittest.TestCase):
    def test_one_form_alone_is_told(self):
        for kind in ref.KINDS:
            one = ref.cell_of(kind, 1.0)
            infinite = ref.infinite(kind)
            last = ref.sign_bit(kind) - 1
            for size in (infinite, infinite + 1, infinite + 2, ref.none(kind), ref.none(kind) + 1, last):
                for cell in (size, ref.negative(kind, size)):
                    for row in ([cell], [cell, one], [one, cell], [one, one, cell, one], [cell] * 3):
                        self.assertEqual(mean(kind, row), [0, ref.none(kind)])

    def test_the_one_form(self):
        self.assertEqual(mean(9, [0xFFFF]), [0, 0x7E00])
        self.assertEqual(mean(10, [0xFFFF]), [0, 0x7FC0])
        self.assertEqual(mean(11, [0xFFFFFFFF]), [0, 0x7FC00000])
        self.assertEqual(mean(12, [2 ** 64 - 1]), [0, 0x7FF8000000000000])

    def test_both_infinite_ones(self):
        for kind in ref.KINDS:
            infinite = ref.infinite(kind)
            self.assertEqual(mean(kind, [infinite, ref.negative(kind, infinite)]), [0, ref.none(kind)])
            self.assertEqual(mean(kind, [infinite, ref.none(kind), 1, 2]), [0, ref.none(kind)])


class Order(unittest.TestCase):
    def test_all_orders_of_a_row(self):
        for kind in ref.KINDS:
            top = ref.greatest(kind)
            row = [top, ref.negative(kind, top), 1, ref.cell_of(kind, 1.0), ref.sign_bit(kind)]
            for other in itertools.permutations(row):
                self.assertEqual(mean(kind, list(other)), ref.mean(kind, row))
