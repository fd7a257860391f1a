"""Call 13: pairs."""

import itertools
import unittest

from exactrows.figures import pairs
from tests import reference as ref


class WorkedOutByHand(unittest.TestCase):
    def test_each_of_the_four(self):
        for kind in ref.ALL_KINDS:
            self.assertEqual(pairs(kind, [1, 2], [5, 9]), [0, 1, 0, 0, 0])
            self.assertEqual(pairs(kind, [2, 1], [9, 5]), [0, 1, 0, 0, 0])
            self.assertEqual(pairs(kind, [1, 2], [9, 5]), [0, 0, 1, 0, 0])
            self.assertEqual(pairs(kind, [2, 1], [5, 9]), [0, 0, 1, 0, 0])
            self.assertEqual(pairs(kind, [1, 1], [5, 9]), [0, 0, 0, 1, 0])
            self.assertEqual(pairs(kind, [1, 2], [5, 5]), [0, 0, 0, 1, 0])
            self.assertEqual(pairs(kind, [1, 1], [5, 5]), [0, 0, 0, 1, 0])

    def test_rows_of_four(self):
        for kind in ref.ALL_KINDS:
            # 1 with 2, 1 with 4 of x and so on: (1, 3), (2, 1), (2, 4), (4, 4)
            self.assertEqual(pairs(kind, [1, 2, 2, 4], [3, 1, 4, 4]), [0, 3, 1, 2, 0])
            self.assertEqual(pairs(kind, [1, 2, 3, 4], [1, 2, 3, 4]), [0, 6, 0, 0, 0])
            self.assertEqual(pairs(kind, [1, 2, 3, 4], [4, 3, 2, 1]), [0, 0, 6, 0, 0])
            self.assertEqual(pairs(kind, [7, 7, 7, 7], [4, 3, 2, 1]), [0, 0, 0, 6, 0])

    def test_all_small_rows(self):
        for x in itertools.product((1, 2, 3), repeat=4):
            for y in ((1, 2, 3, 4), (1, 1, 2, 2), (2, 1, 2, 1), (3, 1, 1, 2)):
                for kind in (1, 8, 9, 12):
                    self.assertEqual(pairs(kind, list(x), list(y)), ref.pairs(kind, x, y))

    def test_on_both_sides_of_the_middle(self):
        for kind in ref.WHOLE_KINDS:
            half = 2 ** (8 * ref.BYTES[kind] - 1)
            same, other = [0, 1, 0, 0, 0], [0, 0, 1, 0, 0]
            signed = kind in ref.SIGNED_KINDS
            self.assertEqual(pairs(kind, [half - 1, half], [1, 2]), other if signed else same)
            self.assertEqual(pairs(kind, [1, 2], [half - 1, half]), other if signed else same)
            self.assertEqual(pairs(kind, [half - 1, half], [half - 1, half]), same)
            self.assertEqual(pairs(kind, [half, half + 1], [1, 2]), same)
            self.assertEqual(pairs(kind, [2 * half - 1, 0], [1, 2]), same if signed else other)


class FloatingKinds(unittest.TestCase):
    def test_below_0(self):
        for kind in ref.KINDS:
            x = ref.row_of(kind, [-1.0, -2.0, 1.0])
            self.assertEqual(pairs(kind, x, ref.row_of(kind, [5.0, 4.0, 6.0])), [0, 3, 0, 0, 0])
            self.assertEqual(pairs(kind, x, ref.row_of(kind, [-5.0, -4.0, -6.0])), [0, 0, 3, 0, 0])

    def test_both_noughts_are_alike(self):
        for kind in ref.KINDS:
            minus = ref.sign_bit(kind)
            for noughts in ([0, minus], [minus, 0], [0, 0], [minus, minus]):
                self.assertEqual(pairs(kind, noughts, [1, 2]), [0, 0, 0, 1, 0])
                self.assertEqual(pairs(kind, [2, 1], noughts), [0, 0, 0, 1, 0])
                self.assertEqual(pairs(kind, noughts, noughts), [0, 0, 0, 1, 0])

    def test_infinite_cells(self):
        for kind in ref.KINDS:
            infinite, top = ref.infinite(kind), ref.greatest(kind)
            minus, minus_top = ref.negative(kind, infinite), ref.negative(kind, top)
            self.assertEqual(pairs(kind, [minus, minus_top, top, infinite], [1, 2, 3, 4]), [0, 6, 0, 0, 0])
            self.assertEqual(pairs(kind, [infinite, infinite], [1, 2]), [0, 0, 0, 1, 0])
            self.assertEqual(pairs(kind, [minus, minus], [1, 2]), [0, 0, 0, 1, 0])
            self.assertEqual(pairs(kind, [minus, infinite], [infinite, minus]), [0, 0, 1, 0, 0])

    def test_what_is_none_is_apart(self):
        for kind in ref.KINDS:
            for cell in ref.odd_cells(kind):
                if ref.is_none(kind, cell):
                    for x, y in (([cell, 1], [1, 2]), ([1, cell], [1, 2]), ([1, 2], [cell, 1]), ([1, 2], [1, cell]),
                                 ([cell, cell], [1, 2]), ([cell, 1], [1, cell]), ([cell, cell], [cell, cell])):
                        self.assertEqual(pairs(kind, x, y), [0, 0, 0, 0, 1])

    def test_apart_before_alike(self):
        for kind in ref.KINDS:
            none = ref.none(kind)
            for x, y in (([none, 1], [2, 2]), ([1, 1], [none, 2]), ([1, 1], [2, none]), ([none, none], [2, 2])):
                self.assertEqual(pairs(kind, x, y), [0, 0, 0, 0, 1])

    def test_what_is_none_leaves_the_others_as_they_are(self):
        for kind in ref.KINDS:
            none = ref.none(kind)
            # Without the places of none: (1, 1), (2, 3), (3, 2), (3, 3)
            x, y = [1, none, 2, 3, 7, 3], [1, 5, 3, 2, none, 3]
            self.assertEqual(pairs(kind, x, y), [0, 3, 1, 2, 9])


class EachKind(unittest.TestCase):
    def test_no_cell_and_one(self):
        for kind in ref.ALL_KINDS:
            self.assertEqual(pairs(kind, [], []), [0, 0, 0, 0, 0])
            for cell in ref.edge_cells(kind):
                self.assertEqual(pairs(kind, [cell], [cell]), [0, 0, 0, 0, 0])

    def test_two_cells_beside_an_edge(self):
        for kind in ref.ALL_KINDS:
            for x in itertools.product(ref.edge_cells(kind), repeat=2):
                for y in ([1, 2], [2, 1]):
                    self.assertEqual(pairs(kind, list(x), y), ref.pairs(kind, x, y))
                    self.assertEqual(pairs(kind, y, list(x)), ref.pairs(kind, y, x))

    def test_mixed_rows_and_their_sum(self):
        for kind in ref.ALL_KINDS:
            for n in (2, 3, 10, 60):
                x, y = ref.mixed_cells(kind, n, kind + n), ref.mixed_cells(kind, n, kind + n + 100)
                told = pairs(kind, x, y)
                self.assertEqual(told, ref.pairs(kind, x, y))
                self.assertEqual(sum(told), n * (n - 1) // 2)
                self.assertEqual(pairs(kind, y, x), told)
                self.assertEqual(pairs(kind, x[::-1], y[::-1]), told)

    def test_few_values(self):
        for kind in ref.ALL_KINDS:
            edges = ref.edge_cells(kind)
            for n in (5, 40):
                numbers = ref.scattered(2 * n, kind + n)
                x = [edges[number % len(edges)] for number in numbers[:n]]
                y = [edges[number % 4] for number in numbers[n:]]
                self.assertEqual(pairs(kind, x, y), ref.pairs(kind, x, y))


class Refusals(unittest.TestCase):
    def test_other_kinds(self):
        for kind in ref.OTHER_KINDS:
            for x in ([], [0], [1, 2], [0] * 4097):
                self.assertEqual(pairs(kind, x, x), [-1])

    def test_numbers_that_are_no_cells(self):
        for kind in ref.ALL_KINDS:
            for number in ref.no_cells(kind):
                for x, y in (([number], [0]), ([0], [number]), ([0, number], [1, 2]), ([1, 2], [number, 0])):
                    self.assertEqual(pairs(kind, x, y), [-1])

    def test_rows_of_different_lengths(self):
        for kind in ref.ALL_KINDS:
            for x, y in (([1], []), ([], [1]), ([1, 2], [1]), ([1], [1, 2]), ([1] * 4096, [1] * 4095),
                         ([1] * 4096, [1] * 4097), ([1] * 4097, [1] * 4096)):
                self.assertEqual(pairs(kind, x, y), [-1])

    def test_the_longest_rows_and_longer_ones(self):
        for kind in ref.ALL_KINDS:
            self.assertEqual(pairs(kind, [1] * 4096, [2] * 4096), [0, 0, 0, 4096 * 4095 // 2, 0])
            for n in (4097, 4200):
                self.assertEqual(pairs(kind, [1] * n, [1] * n), [-1])
