"""Call 5: sort, and the order of each kind's cells."""

import itertools
import unittest

from exactrows.figures import sort
from tests import reference as ref
from tests import refused


class WholeKinds(unittest.TestCase):
    def test_worked_out_by_hand(self):
        # 127, -128, -1, 0, 1
        self.assertEqual(sort(1, [127, 128, 255, 0, 1]), [0, 128, 255, 0, 1, 127])
        self.assertEqual(sort(5, [127, 128, 255, 0, 1]), [0, 0, 1, 127, 128, 255])

    def test_with_sign_on_both_sides_of_the_middle(self):
        for kind, bits in ((1, 8), (2, 16), (3, 32), (4, 64)):
            half, end = 2 ** (bits - 1), 2 ** bits
            x = [half - 1, half, 1, end - 1, 0, half + 1, half - 2, end - 2]
            self.assertEqual(sort(kind, x), [0, half, half + 1, end - 2, end - 1, 0, 1, half - 2, half - 1])

    def test_without_sign_on_both_sides_of_the_middle(self):
        for kind, bits in ((5, 8), (6, 16), (7, 32), (8, 64)):
            half, end = 2 ** (bits - 1), 2 ** bits
            x = [half - 1, half, 1, end - 1, 0, half + 1, half - 2, end - 2]
            self.assertEqual(sort(kind, x), [0, 0, 1, half - 2, half - 1, half, half + 1, end - 2, end - 1])

    def test_all_cells_of_eight_bits(self):
        falling = list(range(255, -1, -1))
        self.assertEqual(sort(1, falling), [0] + list(range(128, 256)) + list(range(128)))
        self.assertEqual(sort(5, falling), [0] + list(range(256)))


class FloatingKinds(unittest.TestCase):
    def test_worked_out_by_hand(self):
        # 2, -1, 1, nought, -2, nought with the sign
        self.assertEqual(sort(9, [0x4000, 0xBC00, 0x3C00, 0, 0xC000, 0x8000]),
                         [0, 0xC000, 0xBC00, 0x8000, 0, 0x3C00, 0x4000])

    def test_as_python_orders_its_own(self):
        values = [3.5, -0.25, 0.5, -7.0, 100.0, -100.0, 1.0, 2.0 ** -10, -2.0 ** -12, 2.0]
        for kind in ref.KINDS:
            self.assertEqual(sort(kind, ref.row_of(kind, values)), [0] + ref.row_of(kind, sorted(values)))

    def test_the_whole_order(self):
        for kind in ref.KINDS:
            infinite, top, least = ref.infinite(kind), ref.greatest(kind), ref.least_ordinary(kind)
            rising = [0, 1, 2, least - 1, least, least + 1, ref.cell_of(kind, 1.0), top - 1, top, infinite]
            told = [ref.negative(kind, cell) for cell in reversed(rising)] + rising + [ref.none(kind)]
            for x in (told, told[::-1], told[5:] + told[:5], told[::2] + told[1::2]):
                self.assertEqual(sort(kind, x), [0] + told)

    def test_the_nought_with_the_sign_comes_first(self):
        for kind in ref.KINDS:
            minus = ref.sign_bit(kind)
            for x in itertools.permutations([0, 0, minus, minus, 1, ref.negative(kind, 1)]):
                self.assertEqual(sort(kind, list(x)), [0, ref.negative(kind, 1), minus, minus, 0, 0, 1])

    def test_what_is_none_is_told_behind_all_in_its_one_form(self):
        for kind in ref.KINDS:
            none, infinite = ref.none(kind), ref.infinite(kind)
            nones = [cell for cell in ref.odd_cells(kind) if ref.is_none(kind, cell)]
            self.assertEqual(len(nones), 10)
            for cell in nones:
                self.assertEqual(sort(kind, [cell]), [0, none])
                self.assertEqual(sort(kind, [cell, infinite, 0]), [0, 0, infinite, none])
            minus = ref.negative(kind, infinite)
            self.assertEqual(sort(kind, nones + [infinite, minus]), [0, minus, infinite] + [none] * 10)

    def test_the_one_form(self):
        for kind, told in ((9, 0x7E00), (10, 0x7FC0), (11, 0x7FC00000), (12, 0x7FF8000000000000)):
            self.assertEqual(sort(kind, [2 ** (8 * ref.BYTES[kind]) - 1]), [0, told])

    def test_all_cells_of_sixteen_bits(self):
        for kind in (9, 10):
            for begin in range(0, 2 ** 16, 4096):
                x = list(range(begin, begin + 4096))
                self.assertEqual(sort(kind, x), ref.sort(kind, x))


class EachKind(unittest.TestCase):
    def test_no_cells(self):
        for kind in ref.ALL_KINDS:
            self.assertEqual(sort(kind, []), [0])

    def test_one_cell(self):
        for kind in ref.ALL_KINDS:
            for cell in ref.edge_cells(kind):
                self.assertEqual(sort(kind, [cell]), [0, ref.one_form(kind, cell)])

    def test_equal_cells(self):
        for kind in ref.ALL_KINDS:
            for cell in ref.edge_cells(kind):
                self.assertEqual(sort(kind, [cell] * 5), [0] + [ref.one_form(kind, cell)] * 5)

    def test_two_cells_beside_an_edge(self):
        for kind in ref.ALL_KINDS:
            for x in itertools.product(ref.edge_cells(kind), repeat=2):
                self.assertEqual(sort(kind, list(x)), ref.sort(kind, x))

    def test_mixed_rows(self):
        for kind in ref.ALL_KINDS:
            for n in (2, 3, 10, 300):
                x = ref.mixed_cells(kind, n, kind + n)
                told = ref.sort(kind, x)
                self.assertEqual(sort(kind, x), told)
                self.assertEqual(sort(kind, x[::-1]), told)
                # Promise 2: the same cells, each as often as before.
                self.assertEqual(sorted(told[1:]), sorted(ref.one_form(kind, cell) for cell in x))

    def test_sorted_again_it_stays(self):
        for kind in ref.ALL_KINDS:
            told = sort(kind, ref.mixed_cells(kind, 60, kind))
            self.assertEqual(sort(kind, told[1:]), told)


class Refusals(refused.OneRow, unittest.TestCase):
    call = staticmethod(sort)

    def test_the_longest_row(self):
        for kind in ref.ALL_KINDS:
            self.assertEqual(sort(kind, [1] * 4095 + [0]), [0, 0] + [1] * 4095)
