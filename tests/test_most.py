"""Call 8: most."""

import itertools
import unittest

from exactrows.figures import most
from tests import reference as ref
from tests import refused


class WorkedOutByHand(unittest.TestCase):
    def test_one_comes_more_often(self):
        for kind in ref.ALL_KINDS:
            self.assertEqual(most(kind, [3, 1, 3, 2, 3, 1]), [0, 3, 3, 3])
            self.assertEqual(most(kind, [1, 1, 1, 2, 2]), [0, 1, 3, 2])

    def test_of_equal_counts_the_first_in_order(self):
        for kind in ref.ALL_KINDS:
            for x in itertools.permutations([4, 2, 2, 4, 9]):
                self.assertEqual(most(kind, list(x)), [0, 2, 2, 3])
            self.assertEqual(most(kind, [5, 3, 4]), [0, 3, 1, 3])

    def test_in_order_with_the_sign(self):
        for kind in ref.SIGNED_KINDS:
            half = 2 ** (8 * ref.BYTES[kind] - 1)
            self.assertEqual(most(kind, [0, 2 * half - 1, half - 1, half]), [0, half, 1, 4])
            self.assertEqual(most(kind, [0, 2 * half - 1, half - 1]), [0, 2 * half - 1, 1, 3])
        for kind in (5, 6, 7, 8):
            half = 2 ** (8 * ref.BYTES[kind] - 1)
            self.assertEqual(most(kind, [2 * half - 1, half - 1, half]), [0, half - 1, 1, 3])
        for kind in ref.KINDS:
            x = ref.row_of(kind, [1.0, -2.0, -1.0, -2.0, 1.0])
            self.assertEqual(most(kind, x), [0, ref.cell_of(kind, -2.0), 2, 3])


class NoughtsInfiniteAndNone(unittest.TestCase):
    def test_the_two_noughts_are_two_cells(self):
        for kind in ref.KINDS:
            minus = ref.sign_bit(kind)
            self.assertEqual(most(kind, [0, minus]), [0, minus, 1, 2])
            self.assertEqual(most(kind, [0, minus, 0]), [0, 0, 2, 2])
            self.assertEqual(most(kind, [0, minus, 0, minus]), [0, minus, 2, 2])
            self.assertEqual(most(kind, [0, minus, 0, minus, 5, 5, 5]), [0, 5, 3, 3])

    def test_what_is_none_is_one_cell(self):
        for kind in ref.KINDS:
            nones = [cell for cell in ref.odd_cells(kind) if ref.is_none(kind, cell)]
            self.assertEqual(most(kind, nones), [0, ref.none(kind), len(nones), 1])
            for one, other in itertools.product(nones, repeat=2):
                self.assertEqual(most(kind, [one, 3, other, 2]), [0, ref.none(kind), 2, 3])
                # Behind all in order.
                self.assertEqual(most(kind, [one, 3, other, 3]), [0, 3, 2, 2])

    def test_infinite_ones(self):
        for kind in ref.KINDS:
            infinite = ref.infinite(kind)
            minus = ref.negative(kind, infinite)
            self.assertEqual(most(kind, [infinite, minus]), [0, minus, 1, 2])
            self.assertEqual(most(kind, [infinite, minus, infinite, ref.none(kind)]), [0, infinite, 2, 3])


class EachKind(unittest.TestCase):
    def test_one_cell_and_equal_cells(self):
        for kind in ref.ALL_KINDS:
            for cell in ref.edge_cells(kind):
                for n in (1, 2, 7):
                    self.assertEqual(most(kind, [cell] * n), [0, ref.one_form(kind, cell), n, 1])

    def test_two_cells_beside_an_edge(self):
        for kind in ref.ALL_KINDS:
            for x in itertools.product(ref.edge_cells(kind), repeat=2):
                self.assertEqual(most(kind, list(x)), ref.most(kind, x))

    def test_mixed_rows(self):
        for kind in ref.ALL_KINDS:
            for n in (2, 3, 10, 100):
                x = ref.mixed_cells(kind, n, kind + n)
                told = ref.most(kind, x)
                self.assertEqual(most(kind, x), told)
                self.assertEqual(most(kind, x[::-1]), told)


class Refusals(refused.OneRow, unittest.TestCase):
    call = staticmethod(most)

    def test_the_longest_row(self):
        for kind in ref.ALL_KINDS:
            self.assertEqual(most(kind, [1] * 4096), [0, 1, 4096, 1])

    def test_no_cells(self):
        for kind in ref.ALL_KINDS:
            self.assertEqual(most(kind, []), [-4])
