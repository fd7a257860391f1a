"""Call 2: moments."""

import itertools
import unittest

from exactrows.figures import moments
from tests import reference as ref


class OrdinaryRows(unittest.TestCase):
    def test_worked_out_by_hand(self):
        # m 2.5, c2 1.25, the sample's variance 5/3, c3 0, c4 2.5625
        self.assertEqual(moments(9, [0x3C00, 0x4000, 0x4200, 0x4400]), [16, 0x4100, 0x3D00, 0x3EAB, 0, 0x4120])
        self.assertEqual(moments(10, [0x3F80, 0x4000, 0x4040, 0x4080]), [16, 0x4020, 0x3FA0, 0x3FD5, 0, 0x4024])
        self.assertEqual(moments(11, ref.row_of(11, [1.0, 2.0, 3.0, 4.0])),
                         [16, 0x40200000, 0x3FA00000, 0x3FD55555, 0, 0x40240000])
        self.assertEqual(moments(12, ref.row_of(12, [1.0, 2.0, 3.0, 4.0])),
                         [16] + ref.row_of(12, [2.5, 1.25, 5 / 3, 0.0, 2.5625]))

    def test_a_row_that_leans_to_one_side(self):
        # m 1, c2 3, the sample's variance 4, c3 6, c4 21
        for kind in ref.KINDS:
            row = ref.row_of(kind, [0.0, 0.0, 0.0, 4.0])
            self.assertEqual(moments(kind, row), [0] + ref.row_of(kind, [1.0, 3.0, 4.0, 6.0, 21.0]))
            minus = ref.row_of(kind, [-0.0, -4.0, -0.0, 0.0])
            self.assertEqual(moments(kind, minus), [0] + ref.row_of(kind, [-1.0, 3.0, 4.0, -6.0, 21.0]))

    def test_small_rows_in_each_kind(self):
        rows = ([1.0, 2.0], [0.5, -0.25, 3.0, 7.0], [1.0, 1.0, 2.0], [100.0, -100.0, 1.5], [3.0] * 5)
        for kind in ref.KINDS:
            for values in rows:
                x = ref.row_of(kind, values)
                self.assertEqual(moments(kind, x), ref.moments(kind, x))

    def test_scattered_rows_in_each_kind(self):
        for kind in ref.KINDS:
            middle = 2 ** (ref.BITS[kind][0] - 1)
            for n in (1, 2, 3, 7, 40):
                for low, high in ((0, None), (middle - 3, middle + 3), (0, 2), (middle // 2, middle)):
                    x = ref.spread_cells(kind, n, 10 * kind + n, low, high)
                    self.assertEqual(moments(kind, x), ref.moments(kind, x))

    def test_cells_that_lie_close_together(self):
        for kind in ref.KINDS:
            near = ref.cell_of(kind, 64.0)
            for x in ([near, near + 1], [near, near + 1, near + 3], [near + 1] * 5 + [near]):
                self.assertEqual(moments(kind, x), ref.moments(kind, x))


class FlagsOfAll(unittest.TestCase):
    def test_none(self):
        for kind in ref.KINDS:
            # m 2, c2 1, the sample's variance 2, c3 0, c4 1
            self.assertEqual(moments(kind, ref.row_of(kind, [1.0, 3.0])), [0] + ref.row_of(kind, [2.0, 1.0, 2.0, 0.0, 1.0]))

    def test_each_at_most_once(self):
        for kind in ref.KINDS:
            x = ref.row_of(kind, [1.0, 1.0, 2.0])
            got = moments(kind, x)
            self.assertEqual(got, ref.moments(kind, x))
            self.assertEqual(got[0], 16)

    def test_of_the_mean_alone(self):
        # Half a step's powers are exact in kinds 11 and 12, the number halfway between two cells isn't.
        for kind, step in ((11, 2.0 ** -23), (12, 2.0 ** -52)):
            one = ref.cell_of(kind, 1.0)
            told = ref.row_of(kind, [1.0, step ** 2 / 4, step ** 2 / 2, 0.0, step ** 4 / 16])
            self.assertEqual(moments(kind, [one, one + 1]), [16] + told)

    def test_of_the_variance_alone(self):
        for kind in ref.KINDS:
            x = ref.row_of(kind, [1.0, 2.0, 3.0, 4.0])
            self.assertEqual(moments(kind, x)[0], 16)
            self.assertEqual([ref.answer(kind, [q])[0] for q in (2.5, 1.25, 0, 2.5625)], [0, 0, 0, 0])

    def test_of_the_fourth_moment_alone(self):
        # 16 and -16: m 0, c2 256, the sample's variance 512, c3 0, c4 65536, which is too great for kind 9.
        self.assertEqual(moments(9, ref.row_of(9, [16.0, -16.0])), [20, 0, 0x5C00, 0x6000, 0, 0x7C00])
        # c4 2^-28 is below half of kind 9's least number.
        row = ref.row_of(9, [2.0 ** -7, -2.0 ** -7])
        self.assertEqual(moments(9, row), [24, 0] + ref.row_of(9, [2.0 ** -14, 2.0 ** -13, 0.0, 0.0]))

    def test_too_great_below_0(self):
        for kind in ref.KINDS:
            top = ref.greatest(kind)
            infinite = ref.infinite(kind)
            got = moments(kind, [ref.negative(kind, top), 0, 0])
            self.assertEqual(got, ref.moments(kind, [ref.negative(kind, top), 0, 0]))
            self.assertEqual(got[0], 20)
            self.assertEqual(got[2:], [infinite, infinite, ref.negative(kind, infinite), infinite])

    def test_too_great_and_too_small(self):
        for kind in ref.KINDS:
            top = ref.greatest(kind)
            x = [top, ref.negative(kind, top), 1]
            got = moments(kind, x)
            self.assertEqual(got, ref.moments(kind, x))
            self.assertEqual(got[0], 28)
            self.assertEqual(got[1:4], [0, ref.infinite(kind), ref.infinite(kind)])

    def test_nought_with_the_sign_from_a_third_moment(self):
        for kind in ref.KINDS:
            # Cubes of the least number are far below half of it.
            x = [ref.negative(kind, 3), 0, 0]
            self.assertEqual(moments(kind, x), [24, ref.negative(kind, 1), 0, 0, ref.sign_bit(kind), 0])


class OneCell(unittest.TestCase):
    def test_the_variance_is_none_without_flags(self):
        for kind in ref.KINDS:
            for cell in (0, 1, ref.cell_of(kind, -3.5), ref.greatest(kind), ref.negative(kind, ref.greatest(kind))):
                self.assertEqual(moments(kind, [cell]), [0, cell, 0, ref.none(kind), 0, 0])


class NoneAndInfinite(unittest.TestCase):
    def test_each_number_is_told_as_none(self):
        for kind in ref.KINDS:
            one = ref.cell_of(kind, 1.0)
            infinite = ref.infinite(kind)
            last = ref.sign_bit(kind) - 1
            for size in (infinite, infinite + 1, ref.none(kind), ref.none(kind) + 1, last):
                for cell in (size, ref.negative(kind, size)):
                    for row in ([cell], [cell, one], [one, cell], [one, one + 1, cell, one], [cell] * 3):
                        self.assertEqual(moments(kind, row), [0] + [ref.none(kind)] * 5)


class Order(unittest.TestCase):
    def test_all_orders_of_a_row(self):
        for kind in ref.KINDS:
            row = [ref.greatest(kind), 5, ref.cell_of(kind, -1.0), ref.cell_of(kind, 1.0) + 1, ref.sign_bit(kind)]
            told = ref.moments(kind, row)
            for other in itertools.permutations(row):
                self.assertEqual(moments(kind, list(other)), told)
