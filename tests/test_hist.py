"""Call 7: hist."""

import itertools
import unittest

from exactrows.figures import hist
from tests import reference as ref


def rising(kind, cells):
    """The cells that have a value, each value once, rising."""
    cells = [cell for cell in cells if not ref.is_none(kind, cell)]
    told = {ref.value(kind, cell): cell for cell in cells}
    return [told[value] for value in sorted(told)]


class WorkedOutByHand(unittest.TestCase):
    def test_whole_kinds(self):
        for kind in ref.WHOLE_KINDS:
            # 10 to 20: 10, 19; 20 to 30: 20, 29; 30 to 40: 30, 40; below: 9; above: 41, 100
            self.assertEqual(hist(kind, [40, 9, 10, 41, 19, 20, 100, 29, 30], [10, 20, 30, 40]), [0, 2, 2, 2, 1, 2, 0])

    def test_two_edges(self):
        for kind in ref.WHOLE_KINDS:
            self.assertEqual(hist(kind, [0, 1, 2, 3, 4, 5], [2, 4]), [0, 3, 2, 1, 0])

    def test_floating_kinds(self):
        for kind in ref.KINDS:
            x = ref.row_of(kind, [-1.0, -0.5, 0.0, 0.5, 1.0, 1.5, 2.0, 2.5]) + [ref.none(kind)]
            edges = ref.row_of(kind, [-0.5, 0.5, 1.0, 2.0])
            self.assertEqual(hist(kind, x, edges), [0, 2, 1, 3, 1, 1, 1])


class AtTheEdges(unittest.TestCase):
    def test_each_edge_and_its_neighbours(self):
        for kind in ref.WHOLE_KINDS:
            edges = [20, 40, 60]
            for cell, place in ((19, 2), (20, 0), (21, 0), (39, 0), (40, 1), (41, 1), (59, 1), (60, 1), (61, 3)):
                told = [0] * 5
                told[place] = 1
                self.assertEqual(hist(kind, [cell], edges), [0] + told)

    def test_each_edge_and_its_neighbours_of_floating_kinds(self):
        for kind in ref.KINDS:
            edges = ref.row_of(kind, [1.0, 2.0, 4.0])
            for edge, below, at, above in zip(edges, (2, 0, 1), (0, 1, 1), (0, 1, 3)):
                for cell, place in ((edge - 1, below), (edge, at), (edge + 1, above)):
                    told = [0] * 5
                    told[place] = 1
                    self.assertEqual(hist(kind, [cell], edges), [0] + told)
                    # The same on the other side of 0: from -4 to -2, from -2 to -1.
                    minus = [ref.negative(kind, edge) for edge in reversed(edges)]
                    self.assertEqual(hist(kind, [ref.negative(kind, cell)], minus), ref.hist(kind, [ref.negative(kind, cell)], minus))

    def test_the_last_edge_is_in_the_last_bin(self):
        for kind in ref.ALL_KINDS:
            self.assertEqual(hist(kind, [5, 5, 5], [1, 3, 5]), [0, 0, 3, 0, 0, 0])
            self.assertEqual(hist(kind, [3, 3, 3], [1, 3, 5]), [0, 0, 3, 0, 0, 0])
            self.assertEqual(hist(kind, [1, 1, 1], [1, 3, 5]), [0, 3, 0, 0, 0, 0])

    def test_with_sign_on_both_sides_of_the_middle(self):
        for kind in ref.SIGNED_KINDS:
            half = 2 ** (8 * ref.BYTES[kind] - 1)
            x = [half - 1, half, half + 1, 2 * half - 1, 0, 1]
            # -1 to 1; below: the two least ones; above: the greatest
            self.assertEqual(hist(kind, x, [2 * half - 1, 0, 1]), [0, 1, 2, 2, 1, 0])
            self.assertEqual(hist(kind, x, [half, half - 1]), [0, 6, 0, 0, 0])
            self.assertEqual(hist(kind, x, [half - 1, half]), [-2])

    def test_without_sign_on_both_sides_of_the_middle(self):
        for kind in (5, 6, 7, 8):
            half = 2 ** (8 * ref.BYTES[kind] - 1)
            x = [half - 1, half, half + 1, 2 * half - 1, 0, 1]
            self.assertEqual(hist(kind, x, [half - 1, half]), [0, 2, 2, 2, 0])
            self.assertEqual(hist(kind, x, [half, half - 1]), [-2])


class NoughtsInfiniteAndNone(unittest.TestCase):
    def test_both_noughts_as_cells_and_as_edges(self):
        for kind in ref.KINDS:
            minus = ref.sign_bit(kind)
            one, minus_one = ref.cell_of(kind, 1.0), ref.cell_of(kind, -1.0)
            for nought in (0, minus):
                self.assertEqual(hist(kind, [0, minus], [minus_one, nought, one]), [0, 0, 2, 0, 0, 0])
                self.assertEqual(hist(kind, [0, minus], [nought, one]), [0, 2, 0, 0, 0])
                self.assertEqual(hist(kind, [0, minus], [minus_one, nought]), [0, 2, 0, 0, 0])
                self.assertEqual(hist(kind, [1, ref.negative(kind, 1)], [minus_one, nought, one]), [0, 1, 1, 0, 0, 0])

    def test_infinite_cells(self):
        for kind in ref.KINDS:
            infinite = ref.infinite(kind)
            minus = ref.negative(kind, infinite)
            edges = ref.row_of(kind, [-1.0, 1.0])
            self.assertEqual(hist(kind, [infinite, infinite, minus, 0], edges), [0, 1, 1, 2, 0])

    def test_infinite_edges(self):
        for kind in ref.KINDS:
            infinite, top = ref.infinite(kind), ref.greatest(kind)
            minus = ref.negative(kind, infinite)
            minus_top = ref.negative(kind, top)
            x = [infinite, minus, top, minus_top, 0, ref.none(kind), infinite]
            self.assertEqual(hist(kind, x, [minus, infinite]), [0, 6, 0, 0, 1])
            self.assertEqual(hist(kind, x, [minus, 0, infinite]), [0, 2, 4, 0, 0, 1])
            self.assertEqual(hist(kind, x, [0, infinite]), [0, 4, 2, 0, 1])
            self.assertEqual(hist(kind, x, [minus, 0]), [0, 3, 0, 3, 1])
            self.assertEqual(hist(kind, x, [minus, minus_top]), [0, 2, 0, 4, 1])
            self.assertEqual(hist(kind, x, [top, infinite]), [0, 3, 3, 0, 1])

    def test_what_is_none(self):
        for kind in ref.KINDS:
            nones = [cell for cell in ref.odd_cells(kind) if ref.is_none(kind, cell)]
            self.assertEqual(hist(kind, nones, [0, 1]), [0, 0, 0, 0, len(nones)])
            self.assertEqual(hist(kind, nones, [0, ref.infinite(kind)]), [0, 0, 0, 0, len(nones)])


class EachKind(unittest.TestCase):
    def test_no_cells(self):
        for kind in ref.ALL_KINDS:
            self.assertEqual(hist(kind, [], [0, 1]), [0, 0, 0, 0, 0])
            self.assertEqual(hist(kind, [], [0, 1, 2, 3]), [0, 0, 0, 0, 0, 0, 0])

    def test_mixed_rows_and_their_sum(self):
        for kind in ref.ALL_KINDS:
            for n, k in ((1, 2), (10, 3), (50, 9), (100, 40)):
                x = ref.mixed_cells(kind, n, kind + n)
                # Edges among the cells, and others.
                edges = rising(kind, ref.mixed_cells(kind, k, kind + n + k) + x[:k] + ref.edge_cells(kind)[:2])
                told = hist(kind, x, edges)
                self.assertEqual(told, ref.hist(kind, x, edges))
                self.assertEqual(sum(told), n)
                self.assertEqual(hist(kind, x[::-1], edges), told)

    def test_each_edge_cell_between_each_two(self):
        for kind in ref.ALL_KINDS:
            cells = ref.edge_cells(kind)
            for edges in itertools.combinations(rising(kind, cells), 2):
                self.assertEqual(hist(kind, cells, list(edges)), ref.hist(kind, cells, edges))

    def test_as_many_edges_as_may_be(self):
        for kind in ref.ALL_KINDS:
            if ref.BYTES[kind] > 1:
                x = [0, 1, 2, 4095, 4096, 4097, 4098, 100]
                told = [0] * 4099
                for place in (0, 1, 2, 4095, 4095, 100):
                    told[place] += 1
                # Bins of one cell each, but the last, which has two; two cells above.
                told[4097] = 2
                self.assertEqual(hist(kind, x, list(range(4097))), [0] + told)


class Refusals(unittest.TestCase):
    def test_other_kinds(self):
        for kind in ref.OTHER_KINDS:
            for x in ([], [0], [2 ** 64 - 1], [0] * 4097):
                for edges in ([0, 1], [1, 0], [], [0] * 4098):
                    self.assertEqual(hist(kind, x, edges), [-1])

    def test_numbers_that_are_no_cells(self):
        for kind in ref.ALL_KINDS:
            for number in ref.no_cells(kind):
                for x in ([number], [0, number], [number, 0, 1]):
                    self.assertEqual(hist(kind, x, [0, 1]), [-1])
                    self.assertEqual(hist(kind, x, [1, 0]), [-1])
                for edges in ([0, number], [number, 0], [1, 0, number], [number, number], [0, 1, number, 2]):
                    self.assertEqual(hist(kind, [1], edges), [-1])
                    self.assertEqual(hist(kind, [], edges), [-1])

    def test_too_many_cells(self):
        for kind in ref.ALL_KINDS:
            self.assertEqual(hist(kind, [1] * 4096, [0, 2]), [0, 4096, 0, 0, 0])
            for n in (4097, 4200):
                self.assertEqual(hist(kind, [1] * n, [0, 2]), [-1])
                self.assertEqual(hist(kind, [1] * n, [2, 0]), [-1])

    def test_too_few_edges_and_too_many(self):
        for kind in ref.ALL_KINDS:
            for x in ([], [0, 1]):
                for edges in ([], [0], [1], [0] * 4098, [0] * 4200):
                    self.assertEqual(hist(kind, x, edges), [-1])
                # As many as may be, but not rising.
                self.assertEqual(hist(kind, x, [0] * 4097), [-2])
            if ref.BYTES[kind] > 1:
                self.assertEqual(hist(kind, [0, 1], list(range(4098))), [-1])
            if kind in ref.KINDS:
                self.assertEqual(hist(kind, [0], [ref.none(kind)]), [-1])

    def test_edges_that_do_not_rise(self):
        for kind in ref.ALL_KINDS:
            for edges in ([1, 1], [2, 1], [0, 2, 2], [0, 0, 2], [0, 2, 1], [3, 1, 2], [0, 1, 2, 3, 3, 4]):
                for x in ([], [0], [1, 2, 3]):
                    self.assertEqual(hist(kind, x, edges), [-2])

    def test_edges_that_do_not_rise_by_value(self):
        for kind in ref.KINDS:
            minus, infinite, none = ref.sign_bit(kind), ref.infinite(kind), ref.none(kind)
            minus_infinite = ref.negative(kind, infinite)
            for edges in ([0, minus], [minus, 0], [minus, 0, 1], [minus_infinite, 0, minus, infinite],
                          [infinite, infinite], [minus_infinite, minus_infinite], [infinite, minus_infinite],
                          [minus_infinite, ref.negative(kind, 1), ref.negative(kind, 1)],
                          ref.row_of(kind, [-1.0, -2.0]), ref.row_of(kind, [1.0, -1.0])):
                for x in ([], [0], [none]):
                    self.assertEqual(hist(kind, x, edges), [-2])

    def test_edges_that_are_none(self):
        for kind in ref.KINDS:
            for cell in ref.odd_cells(kind):
                if ref.is_none(kind, cell):
                    for edges in ([cell, 1], [0, cell], [0, cell, 2], [0, 1, cell], [cell, cell],
                                  [ref.negative(kind, ref.infinite(kind)), ref.infinite(kind), cell]):
                        for x in ([], [0], [cell]):
                            self.assertEqual(hist(kind, x, edges), [-2])
