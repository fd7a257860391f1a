"""Call 4: quant."""

import itertools
import unittest
from fractions import Fraction

from exactrows.figures import quant
from tests import reference as ref

GREAT = 2 ** 32 - 1


class WorkedOutByHand(unittest.TestCase):
    def test_the_middle_of_a_row(self):
        # 1, 2, 4: 2; 1, 2, 4, 8: 3
        self.assertEqual(quant(9, [0x4400, 0x3C00, 0x4000], [1, 2]), [0, 0x4000])
        self.assertEqual(quant(9, [0x4400, 0x3C00, 0x4800, 0x4000], [1, 2]), [0, 0x4200])
        for kind in ref.KINDS:
            self.assertEqual(quant(kind, ref.row_of(kind, [8.0, 1.0, 4.0, 2.0]), [1, 2]), [0, ref.cell_of(kind, 3.0)])

    def test_quarters_and_thirds(self):
        for kind in ref.KINDS:
            x = ref.row_of(kind, [5.0, -3.0, 1.0])
            # -3, 1, 5: at 1/4 halfway from -3 to 1, at 3/4 halfway from 1 to 5, at 1/3 two thirds from -3 to 1
            self.assertEqual(quant(kind, x, [1, 4, 3, 4]), [0] + ref.row_of(kind, [-1.0, 3.0]))
            self.assertEqual(quant(kind, x, [1, 3]), [16, ref.rounded(kind, Fraction(-1, 3))[1]])
        # -1/3
        self.assertEqual(quant(9, [0x4500, 0xC200, 0x3C00], [1, 3]), [16, 0xB555])


class TheCellAsItIs(unittest.TestCase):
    def test_the_first_and_the_last(self):
        for kind in ref.KINDS:
            x = ref.row_of(kind, [5.0, -3.0, 1.0, 2.0])
            for b in (1, 2, 7, GREAT):
                self.assertEqual(quant(kind, x, [0, b]), [0, ref.cell_of(kind, -3.0)])
                self.assertEqual(quant(kind, x, [b, b]), [0, ref.cell_of(kind, 5.0)])

    def test_each_cell_of_a_row(self):
        for kind in ref.KINDS:
            one = ref.cell_of(kind, 1.0)
            minus_infinite = ref.negative(kind, ref.infinite(kind))
            ordered = [minus_infinite, ref.negative(kind, one), ref.sign_bit(kind), 0, 1, one, ref.greatest(kind),
                       ref.infinite(kind), ref.none(kind)]
            x = ordered[3:] + ordered[:3]
            for i, cell in enumerate(ordered):
                self.assertEqual(quant(kind, x, [i, 8]), [0, cell])
                self.assertEqual(quant(kind, x, [1000 * i, 8000]), [0, cell])

    def test_the_nought_with_the_sign(self):
        for kind in ref.KINDS:
            minus = ref.sign_bit(kind)
            self.assertEqual(quant(kind, [minus], [1, 3]), [0, minus])
            self.assertEqual(quant(kind, [0, minus], [0, 1, 1, 1]), [0, minus, 0])
            self.assertEqual(quant(kind, [minus] * 3, [1, 2]), [0, minus])

    def test_one_cell(self):
        for kind in ref.KINDS:
            for cell in ref.edge_cells(kind):
                told = ref.one_form(kind, cell)
                self.assertEqual(quant(kind, [cell], [0, 1, 1, 1, 1, 2, 1, 3, GREAT - 1, GREAT]), [0] + [told] * 5)

    def test_what_is_none_in_its_one_form(self):
        for kind in ref.KINDS:
            for cell in ref.odd_cells(kind):
                if ref.is_none(kind, cell):
                    self.assertEqual(quant(kind, [cell, 0], [1, 1, 0, 1]), [0, ref.none(kind), 0])


class BetweenTwoNumbers(unittest.TestCase):
    def test_nought_is_the_cell_0(self):
        for kind in ref.KINDS:
            minus = ref.sign_bit(kind)
            one = ref.cell_of(kind, 1.0)
            for x in ([minus, minus], [minus, 0], [0, 0], [one, ref.negative(kind, one)], [1, ref.negative(kind, 1)]):
                self.assertEqual(quant(kind, x, [1, 2]), [0, 0])
            self.assertEqual(quant(kind, [minus, minus], [1, 3, 2, 3, 1, GREAT]), [0, 0, 0, 0])

    def test_equal_ones(self):
        for kind in ref.KINDS:
            for cell in (1, ref.cell_of(kind, -1.5), ref.greatest(kind), ref.negative(kind, ref.greatest(kind))):
                self.assertEqual(quant(kind, [cell, cell], [1, 3, 5, 7]), [0, cell, cell])

    def test_neighbouring_cells(self):
        for kind in ref.KINDS:
            one = ref.cell_of(kind, 1.0)
            x = [one + 1, one + 2]
            self.assertEqual(quant(kind, x, [1, 2]), [16, one + 2])
            self.assertEqual(quant(kind, x, [2 ** 31 - 1, GREAT]), [16, one + 1])
            self.assertEqual(quant(kind, x, [2 ** 31, GREAT]), [16, one + 2])
            self.assertEqual(quant(kind, [one, one + 1], [1, 2]), [16, one])
            minus = [ref.negative(kind, cell) for cell in x]
            self.assertEqual(quant(kind, minus, [1, 2]), [16, ref.negative(kind, one + 2)])

    def test_between_the_greatest_numbers_nothing_is_too_great(self):
        for kind in ref.KINDS:
            top = ref.greatest(kind)
            self.assertEqual(quant(kind, [top, ref.negative(kind, top)], [1, 2]), [0, 0])
            self.assertEqual(quant(kind, [top, top], [1, 3]), [0, top])
            self.assertEqual(quant(kind, [top, top - 1], [1, 2]), [16, top - 1])
            x = [top, ref.negative(kind, top)]
            for a in (1, 2, 3):
                self.assertEqual(quant(kind, x, [a, 4]), ref.quant(kind, x, [a, 4]))

    def test_below_the_least_ordinary_number(self):
        for kind in ref.KINDS:
            least = ref.least_ordinary(kind)
            self.assertEqual(quant(kind, [2, 4], [1, 2]), [0, 3])
            self.assertEqual(quant(kind, [2, 3], [1, 2]), [24, 2])
            self.assertEqual(quant(kind, [0, 1], [1, 2]), [24, 0])
            self.assertEqual(quant(kind, [0, 1], [2, 3]), [24, 1])
            self.assertEqual(quant(kind, [0, ref.negative(kind, 1)], [2, 3]), [24, ref.sign_bit(kind)])
            self.assertEqual(quant(kind, [ref.sign_bit(kind), 1], [1, GREAT]), [24, 0])
            self.assertEqual(quant(kind, [least - 1, least], [1, 2]), [24, least])
            self.assertEqual(quant(kind, [least - 1, least], [3, 4]), [16, least])
            self.assertEqual(quant(kind, [least, least + 1], [1, 2]), [16, least])

    def test_it_lies_between_its_neighbours(self):
        for kind in ref.KINDS:
            x = ref.spread_cells(kind, 9, kind)
            ordered = ref.sort(kind, x)[1:]
            for a in range(101):
                cell = quant(kind, x, [a, 100])[1]
                i = 8 * a // 100
                low, high = ordered[i], ordered[min(i + 1, 8)]
                self.assertLessEqual(ref.value(kind, low), ref.value(kind, cell))
                self.assertLessEqual(ref.value(kind, cell), ref.value(kind, high))


class BesideInfiniteAndNone(unittest.TestCase):
    def test_the_one_that_is_infinite(self):
        for kind in ref.KINDS:
            infinite = ref.infinite(kind)
            minus = ref.negative(kind, infinite)
            for cell in (0, ref.sign_bit(kind), 1, ref.greatest(kind), ref.cell_of(kind, -2.0)):
                for a, b in ((1, 2), (1, GREAT), (GREAT - 1, GREAT)):
                    self.assertEqual(quant(kind, [infinite, cell], [a, b]), [0, infinite])
                    self.assertEqual(quant(kind, [minus, cell], [a, b]), [0, minus])

    def test_two_infinite_ones(self):
        for kind in ref.KINDS:
            infinite = ref.infinite(kind)
            minus = ref.negative(kind, infinite)
            self.assertEqual(quant(kind, [infinite, infinite], [1, 3]), [0, infinite])
            self.assertEqual(quant(kind, [minus, minus], [1, 3]), [0, minus])
            self.assertEqual(quant(kind, [infinite, minus], [1, 3]), [0, ref.none(kind)])
            self.assertEqual(quant(kind, [infinite, minus], [0, 1, 1, 2, 1, 1]), [0, minus, ref.none(kind), infinite])

    def test_beside_what_is_none(self):
        for kind in ref.KINDS:
            others = [0, ref.cell_of(kind, -1.0), ref.infinite(kind), ref.negative(kind, ref.infinite(kind)), ref.none(kind)]
            for cell in ref.odd_cells(kind):
                if ref.is_none(kind, cell):
                    for other in others:
                        self.assertEqual(quant(kind, [cell, other], [1, 3]), [0, ref.none(kind)])

    def test_numbers_are_told_all_the_same_ahead_of_them(self):
        for kind in ref.KINDS:
            x = ref.row_of(kind, [3.0, 1.0]) + [ref.none(kind), ref.infinite(kind)]
            # 1, 3, infinite, none
            self.assertEqual(quant(kind, x, [1, 6, 1, 2, 5, 6]), [0, ref.cell_of(kind, 2.0), ref.infinite(kind), ref.none(kind)])

    def test_each_two_cells_beside_an_edge(self):
        for kind in ref.KINDS:
            for x in itertools.product(ref.edge_cells(kind), repeat=2):
                self.assertEqual(quant(kind, list(x), [1, 2]), ref.quant(kind, x, [1, 2]))
                self.assertEqual(quant(kind, list(x), [2, 7]), ref.quant(kind, x, [2, 7]))


class Fractions(unittest.TestCase):
    def test_no_fractions(self):
        for kind in ref.KINDS:
            for x in ([0], [1, 2, 3], [ref.none(kind)]):
                self.assertEqual(quant(kind, x, []), [0])

    def test_the_flags_of_all_each_at_most_once(self):
        for kind in ref.KINDS:
            one = ref.cell_of(kind, 1.0)
            # Between 0 and 1 units, then between one and the next cell.
            x = [0, 1, one, one + 1]
            self.assertEqual(quant(kind, x, [1, 6])[0], 24)
            self.assertEqual(quant(kind, x, [5, 6]), [16, one])
            self.assertEqual(quant(kind, x, [5, 6, 1, 6, 5, 6, 1, 6, 0, 1]), [24, one, 0, one, 0, 0])
            self.assertEqual(quant(kind, x, [5, 6, 5, 6, 5, 6]), [16, one, one, one])
            self.assertEqual(quant(kind, x, [1, 3, 0, 7, 3, 3]), [0, 1, 0, one + 1])

    def test_in_the_order_in_which_they_are_handed_in(self):
        for kind in ref.KINDS:
            x = ref.row_of(kind, [4.0, 2.0, 0.0])
            self.assertEqual(quant(kind, x, [1, 1, 0, 1, 3, 4, 1, 4]), [0] + ref.row_of(kind, [4.0, 0.0, 3.0, 1.0]))

    def test_great_ones(self):
        for kind in ref.KINDS:
            x = ref.spread_cells(kind, 7, kind)
            fractions = [GREAT, GREAT, GREAT - 1, GREAT, 1, GREAT, 2 ** 31, GREAT, 2 ** 31 - 1, GREAT, 3, GREAT - 4,
                         GREAT // 3, GREAT, GREAT // 6, GREAT]
            self.assertEqual(quant(kind, x, fractions), ref.quant(kind, x, fractions))

    def test_many_fractions_of_mixed_rows(self):
        for kind in ref.KINDS:
            for n in (2, 3, 10, 60):
                for x in (ref.mixed_cells(kind, n, kind + n), ref.spread_cells(kind, n, kind + n)):
                    fractions = []
                    for mixed in ref.scattered(30, n):
                        b = 1 + (mixed >> 32) % (50 if mixed % 2 else GREAT)
                        fractions += [mixed % (b + 1), b]
                    told = ref.quant(kind, x, fractions)
                    self.assertEqual(quant(kind, x, fractions), told)
                    self.assertEqual(quant(kind, x[::-1], fractions), told)
                    self.assertEqual(quant(kind, sorted(x), fractions), told)

    def test_fractions_of_one_size_tell_the_same(self):
        for kind in ref.KINDS:
            x = ref.spread_cells(kind, 8, kind)
            self.assertEqual(quant(kind, x, [2, 6, 1000, 3000]), quant(kind, x, [1, 3, 1, 3]))


class Refusals(unittest.TestCase):
    def test_kinds_that_it_does_not_have(self):
        for kind in ref.OTHER_KINDS + ref.WHOLE_KINDS:
            for x in ([], [0], [3, 2, 1], [0] * 4097):
                for fractions in ([], [1, 2], [1, 0]):
                    self.assertEqual(quant(kind, x, fractions), [-1])

    def test_numbers_that_are_no_cells(self):
        for kind in ref.KINDS:
            for number in ref.no_cells(kind):
                for x in ([number], [number, 0], [0, number], [ref.none(kind), number, 2]):
                    for fractions in ([], [1, 2], [1, 0], [2, 1]):
                        self.assertEqual(quant(kind, x, fractions), [-1])

    def test_the_longest_row_and_a_longer_one(self):
        for kind in ref.KINDS:
            self.assertEqual(quant(kind, [1] * 4096, [1, 2]), [0, 1])
            for n in (4097, 4200):
                for fractions in ([], [1, 2], [1, 0]):
                    self.assertEqual(quant(kind, [1] * n, fractions), [-1])

    def test_the_most_fractions_and_more(self):
        for kind in ref.KINDS:
            self.assertEqual(quant(kind, [1, 3], [1, 2] * 4096), [0] + [2] * 4096)
            for n in (4097, 4150):
                for x in ([1, 3], []):
                    self.assertEqual(quant(kind, x, [1, 2] * n), [-1])
                    self.assertEqual(quant(kind, x, [1, 0] * n), [-1])

    def test_a_fraction_s_number_that_is_too_great(self):
        for kind in ref.KINDS:
            for number in (2 ** 32, 2 ** 32 + 1, 2 ** 64 - 1):
                for fractions in ([number, number], [1, number], [0, number], [number, 1], [number, 0],
                                  [1, 2, 1, number], [1, 0, 1, number], [1, number, 1, 0]):
                    self.assertEqual(quant(kind, [1, 3], fractions), [-1])
                    self.assertEqual(quant(kind, [], fractions), [-1])

    def test_b_0_and_a_above_b(self):
        for kind in ref.KINDS:
            for fraction in ([0, 0], [1, 0], [2, 1], [8, 7], [GREAT, 0], [GREAT, GREAT - 1]):
                for fractions in (fraction, [1, 2] + fraction, fraction + [1, 2], [1, 2] * 4095 + fraction):
                    self.assertEqual(quant(kind, [1, 3], fractions), [-2])
                    self.assertEqual(quant(kind, [ref.none(kind)], fractions), [-2])
                    # Ahead of -4.
                    self.assertEqual(quant(kind, [], fractions), [-2])

    def test_no_cells(self):
        for kind in ref.KINDS:
            for fractions in ([], [1, 2], [0, 1, 1, 1]):
                self.assertEqual(quant(kind, [], fractions), [-4])
