"""Call 10: covs."""

import unittest

from exactrows.figures import cov, covs, moments
from tests import reference as ref


class Answers(unittest.TestCase):
    def test_worked_out_by_hand(self):
        for kind in ref.KINDS:
            x, y, z = [ref.row_of(kind, values) for values in ([1.0, 3.0], [2.0, 6.0], [5.0, 1.0])]
            # Half-widths 1, 2 and -2.
            told = ref.row_of(kind, [1.0, 2.0, -2.0, 2.0, 4.0, -4.0, -2.0, -4.0, 4.0])
            self.assertEqual(covs(kind, [x, y, z]), [0] + told)

    def test_one_row_tells_its_c2(self):
        for kind in ref.KINDS:
            for n in (1, 2, 5, 30):
                x = ref.spread_cells(kind, n, kind + n)
                self.assertEqual(covs(kind, [x]), ref.covs(kind, [x]))
                self.assertEqual(covs(kind, [x])[1], moments(kind, x)[2])

    def test_scattered_rows(self):
        for kind in ref.KINDS:
            middle = 2 ** (ref.BITS[kind][0] - 1)
            for many, n in ((2, 1), (2, 3), (3, 10), (5, 4)):
                for low, high in ((0, None), (middle - 3, middle + 3), (0, 2), (middle // 2, middle)):
                    rows = [ref.spread_cells(kind, n, 10 * kind + n + i, low, high) for i in range(many)]
                    self.assertEqual(covs(kind, rows), ref.covs(kind, rows))

    def test_as_cov_tells_each_two(self):
        for kind in ref.KINDS:
            rows = [ref.spread_cells(kind, 6, kind + i) for i in range(4)]
            rows[2] = rows[0]
            got = covs(kind, rows)
            self.assertEqual(got[1:], [cov(kind, x, y)[1] for x in rows for y in rows])

    def test_the_order_of_the_rows_orders_the_cells(self):
        for kind in ref.KINDS:
            rows = [ref.spread_cells(kind, 6, kind + i) for i in range(4)]
            got = covs(kind, rows)
            # Backwards each row's place i is 3 - i, so the cells come backwards.
            self.assertEqual(covs(kind, rows[::-1]), got[:1] + got[:0:-1])
            # Another order of the cells, in all rows alike.
            self.assertEqual(covs(kind, [row[::-1] for row in rows]), got)

    def test_rows_of_equal_values(self):
        for kind in ref.KINDS:
            one = ref.cell_of(kind, 1.0)
            self.assertEqual(covs(kind, [[one] * 3, [1, 2, 3], [0, ref.sign_bit(kind), 0]])[:2], [24, 0])
            self.assertEqual(covs(kind, [[one] * 3, [0, ref.sign_bit(kind), 0]]), [0, 0, 0, 0, 0])
            self.assertEqual(covs(kind, [[one], [5]]), [0, 0, 0, 0, 0])

    def test_as_many_rows_as_may_be(self):
        for kind in ref.KINDS:
            rows = [ref.row_of(kind, [1.0 + i % 4, 1.0 - i % 4]) for i in range(64)]
            told = [ref.cell_of(kind, float((i % 4) * (j % 4))) for i in range(64) for j in range(64)]
            self.assertEqual(covs(kind, rows), [0] + told)


class Flags(unittest.TestCase):
    def test_of_all_added_up_each_at_most_once(self):
        for kind in ref.KINDS:
            top = ref.greatest(kind)
            great = [top, ref.negative(kind, top)]
            small = [1, 2]
            third = ref.row_of(kind, [1.0, -1.0])
            self.assertEqual(covs(kind, [great, third]), [20, ref.infinite(kind), top, top, ref.cell_of(kind, 1.0)])
            self.assertEqual(covs(kind, [small, small]), [24, 0, 0, 0, 0])
            got = covs(kind, [great, small, great])
            self.assertEqual(got, ref.covs(kind, [great, small, great]))
            self.assertEqual(got[0], 28)
            self.assertEqual(covs(kind, [third, third]), [0] + [ref.cell_of(kind, 1.0)] * 4)

    def test_of_one_pair_alone(self):
        for kind in ref.KINDS:
            # -1, 0, 1 and 1, -2, 1: c2 2/3 and 2, covariance 0
            x, y = ref.row_of(kind, [-1.0, 0.0, 1.0]), ref.row_of(kind, [1.0, -2.0, 1.0])
            self.assertEqual(covs(kind, [y]), [0, ref.cell_of(kind, 2.0)])
            got = covs(kind, [y, x])
            self.assertEqual(got, ref.covs(kind, [y, x]))
            self.assertEqual(got[:4], [16, ref.cell_of(kind, 2.0), 0, 0])


class NoneAndInfinite(unittest.TestCase):
    def test_in_its_places_alone(self):
        for kind in ref.KINDS:
            none = ref.none(kind)
            x, z = ref.row_of(kind, [1.0, 3.0]), ref.row_of(kind, [5.0, 1.0])
            for cell in ref.odd_cells(kind):
                for y in ([cell, 0], [0, cell], [cell, cell]):
                    one, minus_two, four = ref.row_of(kind, [1.0, -2.0, 4.0])
                    self.assertEqual(covs(kind, [x, y, z]),
                                     [0, one, none, minus_two, none, none, none, minus_two, none, four])
                    self.assertEqual(covs(kind, [y, x]), [0, none, none, none, one])
                    self.assertEqual(covs(kind, [y]), [0, none])
                    self.assertEqual(covs(kind, [y, y]), [0] + [none] * 4)

    def test_the_flags_of_the_others_stay(self):
        for kind in ref.KINDS:
            none = ref.none(kind)
            self.assertEqual(covs(kind, [[1, 2], [none, 0]]), [24, 0, none, none, none])
            top = ref.greatest(kind)
            self.assertEqual(covs(kind, [[none, 0], [top, ref.negative(kind, top)]]), [20, none, none, none, ref.infinite(kind)])


class Refusals(unittest.TestCase):
    def test_other_kinds(self):
        for kind in ref.OTHER_KINDS + ref.WHOLE_KINDS:
            for rows in ([], [[]], [[0]], [[1, 2], [3, 4]], [[1]] * 65):
                self.assertEqual(covs(kind, rows), [-1])

    def test_numbers_that_are_no_cells(self):
        for kind in ref.KINDS:
            for number in ref.no_cells(kind):
                for rows in ([[number]], [[0, 1], [number, 0]], [[0, 1], [0, number]], [[number, 0], [1, 2], [3, 4]],
                             [[ref.none(kind), 0], [0, number]]):
                    self.assertEqual(covs(kind, rows), [-1])

    def test_rows_of_different_lengths(self):
        for kind in ref.KINDS:
            for rows in ([[1], []], [[], [1]], [[1, 2], [1]], [[1, 2], [3, 4], [5]], [[1, 2], [3], [4, 5]],
                         [[1], [3, 4], [4, 5]], [[], [], [1]], [[ref.none(kind)], [1, 2]]):
                self.assertEqual(covs(kind, rows), [-1])

    def test_too_many_rows(self):
        for kind in ref.KINDS:
            for many in (65, 66):
                for row in ([1], [1, 2, 3], [], [ref.none(kind)]):
                    self.assertEqual(covs(kind, [row] * many), [-1])
            self.assertEqual(covs(kind, [[1]] * 64), [0] + [0] * 64 * 64)

    def test_too_many_cells(self):
        for kind in ref.KINDS:
            self.assertEqual(covs(kind, [[1] * 4097]), [-1])
            self.assertEqual(covs(kind, [[1] * 4096]), [0, 0])

    def test_no_rows_and_no_cells(self):
        for kind in ref.KINDS:
            self.assertEqual(covs(kind, []), [-4])
            self.assertEqual(covs(kind, [[]]), [-4])
            self.assertEqual(covs(kind, [[], [], []]), [-4])
            self.assertEqual(covs(kind, [[]] * 64), [-4])
