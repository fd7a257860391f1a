"""Call 6: ranks."""

import itertools
import unittest

from exactrows.figures import ranks
from tests import reference as ref
from tests import refused


class WorkedOutByHand(unittest.TestCase):
    def test_whole_kinds(self):
        # 5 is first, then 7 twice, then 9: 2 * 0 + 1 + 1, 2 * 1 + 2 + 1, 2 * 3 + 1 + 1
        for kind in ref.WHOLE_KINDS:
            self.assertEqual(ranks(kind, [7, 5, 9, 7]), [0, 5, 2, 8, 5])

    def test_on_both_sides_of_the_middle(self):
        for kind in ref.WHOLE_KINDS:
            half = 2 ** (8 * ref.BYTES[kind] - 1)
            x = [half - 1, half, 0, 2 * half - 1]
            told = [0, 8, 2, 6, 4] if kind in ref.SIGNED_KINDS else [0, 4, 6, 2, 8]
            self.assertEqual(ranks(kind, x), told)

    def test_floating_kinds(self):
        for kind in ref.KINDS:
            self.assertEqual(ranks(kind, ref.row_of(kind, [1.0, -2.0, 1.0, 0.5, -3.0])), [0, 9, 4, 9, 6, 2])


class Equal(unittest.TestCase):
    def test_all_of_a_row(self):
        for kind in ref.ALL_KINDS:
            for cell in ref.edge_cells(kind):
                for n in (1, 2, 3, 10):
                    self.assertEqual(ranks(kind, [cell] * n), [0] + [n + 1] * n)

    def test_both_noughts_are_the_same_by_value(self):
        for kind in ref.KINDS:
            minus = ref.sign_bit(kind)
            self.assertEqual(ranks(kind, [0, minus]), [0, 3, 3])
            self.assertEqual(ranks(kind, [minus, 1, 0, ref.negative(kind, 1)]), [0, 5, 8, 5, 2])

    def test_infinite_ones_of_one_sign(self):
        for kind in ref.KINDS:
            infinite = ref.infinite(kind)
            minus = ref.negative(kind, infinite)
            self.assertEqual(ranks(kind, [infinite, minus, infinite, 0, minus]), [0, 9, 3, 9, 6, 3])

    def test_those_that_are_none(self):
        for kind in ref.KINDS:
            nones = [cell for cell in ref.odd_cells(kind) if ref.is_none(kind, cell)]
            self.assertEqual(ranks(kind, nones), [0] + [len(nones) + 1] * len(nones))
            for one, other in itertools.product(nones, repeat=2):
                # Behind all, the infinite one too.
                self.assertEqual(ranks(kind, [one, ref.infinite(kind), other, 0]), [0, 7, 4, 7, 2])


class EachKind(unittest.TestCase):
    def test_no_cells(self):
        for kind in ref.ALL_KINDS:
            self.assertEqual(ranks(kind, []), [0])

    def test_two_cells_beside_an_edge(self):
        for kind in ref.ALL_KINDS:
            for x in itertools.product(ref.edge_cells(kind), repeat=2):
                self.assertEqual(ranks(kind, list(x)), ref.ranks(kind, x))

    def test_mixed_rows_and_their_sum(self):
        for kind in ref.ALL_KINDS:
            for n in (2, 3, 10, 100):
                x = ref.mixed_cells(kind, n, kind + n)
                told = ranks(kind, x)
                self.assertEqual(told, ref.ranks(kind, x))
                self.assertEqual(sum(told[1:]), n * (n + 1))

    def test_the_order_of_the_cells_orders_the_ranks_alone(self):
        for kind in ref.ALL_KINDS:
            x = ref.mixed_cells(kind, 40, kind)
            self.assertEqual(ranks(kind, x[::-1])[1:], ranks(kind, x)[:0:-1])


class Refusals(refused.OneRow, unittest.TestCase):
    call = staticmethod(ranks)

    def test_the_longest_row(self):
        for kind in ref.ALL_KINDS:
            self.assertEqual(ranks(kind, [1] * 4096), [0] + [4097] * 4096)
