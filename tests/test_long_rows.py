"""Rows of 4,096 cells, with exponents far apart: answered exactly, whatever their order, in ordinary time."""

import bisect
import time
import unittest

from exactrows.figures import again, corr, cov, covs, hist, line, mean, moments, most, pairs, quant, ranks, shuffle, sort
from exactrows.figures import weigh
from tests import reference as ref

SECONDS = 20


def mixed_up(row):
    """The row's cells in another order."""
    return [row[i] for i in sorted(range(len(row)), key=lambda i: (i * 2654435761) % 4099)]


class LongRows(unittest.TestCase):
    def in_time(self, call, *args):
        begin = time.monotonic()
        got = call(*args)
        self.assertLess(time.monotonic() - begin, SECONDS)
        return got

    def test_mean_moments_weigh(self):
        for kind in ref.KINDS:
            x = ref.spread_cells(kind, 4096, kind)
            w = ref.spread_cells(kind, 4096, kind + 100)
            self.assertEqual(self.in_time(mean, kind, x), ref.mean(kind, x))
            self.assertEqual(self.in_time(moments, kind, x), ref.moments(kind, x))
            self.assertEqual(self.in_time(weigh, kind, x, w), ref.weigh(kind, x, w))

    def test_moments_that_are_not_too_great(self):
        # From the least cells up to about 2^200: c4 still has a number in kind 12.
        x = ref.spread_cells(12, 4096, 5, 0, 1223)
        got = moments(12, x)
        self.assertEqual(got, ref.moments(12, x))
        self.assertEqual(got[0], 16)

    def test_the_order_changes_nothing(self):
        x = ref.spread_cells(12, 4096, 3)
        w = ref.spread_cells(12, 4096, 4)
        self.assertEqual(mean(12, mixed_up(x)), mean(12, x))
        self.assertEqual(moments(12, sorted(x)), moments(12, x))
        self.assertEqual(weigh(12, mixed_up(x), mixed_up(w)), weigh(12, x, w))

    def test_sort_and_ranks(self):
        for kind in ref.ALL_KINDS:
            x = ref.mixed_cells(kind, 4096, kind)
            told = ref.sort(kind, x)
            self.assertEqual(self.in_time(sort, kind, x), told)
            got = self.in_time(ranks, kind, x)
            self.assertEqual(sum(got[1:]), 4096 * 4097)
            # The value alone, without the sign of a nought.
            values = [ref.order(kind, cell)[:2] for cell in told[1:]]
            keys = [ref.order(kind, cell)[:2] for cell in x]
            self.assertEqual(got, [0] + [bisect.bisect_left(values, key) + bisect.bisect_right(values, key) + 1 for key in keys])

    def test_quant(self):
        for kind in ref.KINDS:
            fractions = []
            for i in range(4096):
                fractions += [i * 1048571, 2 ** 32 - 1 - i]
            x = ref.spread_cells(kind, 4096, kind)
            got = self.in_time(quant, kind, x, fractions)
            self.assertEqual(got, ref.quant(kind, x, fractions))
            self.assertEqual(quant(kind, mixed_up(x), fractions), got)

    def test_hist(self):
        for kind in ref.ALL_KINDS:
            x = ref.mixed_cells(kind, 4096, kind)
            ordered = ref.sort(kind, ref.mixed_cells(kind, 4097, kind + 50))[1:]
            values = [ref.value(kind, cell) for cell in ordered]
            # As many edges as the kind has: those that come once more and what's none are left out.
            edges = [b for a, b, v in zip([None] + values, ordered, values) if v is not None and a != v]
            self.assertGreater(len(edges), 200)
            got = self.in_time(hist, kind, x, edges)
            self.assertEqual(sum(got), 4096)
            bounds = [ref.value(kind, edge) for edge in edges]
            told = [0] * (len(edges) + 2)
            for cell in x:
                mine = ref.value(kind, cell)
                if mine is None:
                    told[-1] += 1
                elif not bounds[0] <= mine <= bounds[-1]:
                    told[-3 if mine < bounds[0] else -2] += 1
                else:
                    told[bisect.bisect_right(bounds[1:-1], mine)] += 1
            self.assertEqual(got, [0] + told)

    def test_hist_with_as_many_edges_as_may_be(self):
        for kind in ref.ALL_KINDS:
            if ref.BYTES[kind] > 1:
                x = mixed_up(range(1, 4097))
                self.assertEqual(self.in_time(hist, kind, x, list(range(4097))), [0, 0] + [1] * 4094 + [2, 0, 0, 0])

    def test_most(self):
        for kind in ref.ALL_KINDS:
            x = ref.mixed_cells(kind, 4096, kind)
            self.assertEqual(self.in_time(most, kind, x), ref.most(kind, x))

    def test_cov(self):
        for kind in ref.KINDS:
            x = ref.spread_cells(kind, 4096, kind)
            y = ref.spread_cells(kind, 4096, kind + 100)
            got = self.in_time(cov, kind, x, y)
            self.assertEqual(got, ref.cov(kind, x, y))
            self.assertEqual(cov(kind, mixed_up(x), mixed_up(y)), got)
        # From the least cells up to about 2^400: not too great.
        x = ref.spread_cells(12, 4096, 5, 0, 1423)
        y = ref.spread_cells(12, 4096, 6, 0, 1423)
        got = cov(12, x, y)
        self.assertEqual(got, ref.cov(12, x, y))
        self.assertEqual(got[0], 16)

    def test_corr_and_line(self):
        for kind in ref.KINDS:
            x = ref.spread_cells(kind, 4096, kind)
            y = ref.spread_cells(kind, 4096, kind + 100)
            for call, told in ((corr, ref.corr(kind, x, y)), (line, ref.line(kind, x, y))):
                self.assertEqual(self.in_time(call, kind, x, y), told)
                self.assertEqual(call(kind, mixed_up(x), mixed_up(y)), told)

    def test_covs_of_as_many_rows_as_may_be(self):
        for kind in ref.KINDS:
            rows = [ref.spread_cells(kind, 240, 1000 * kind + i) for i in range(64)]
            got = self.in_time(covs, kind, rows)
            self.assertEqual(len(got), 1 + 64 * 64)
            for i, j in ((0, 0), (0, 63), (63, 0), (63, 63), (5, 17), (17, 5), (40, 40)):
                self.assertEqual(got[1 + 64 * i + j], ref.cov(kind, rows[i], rows[j])[1])
            # The flags of all: each one that a pair has.
            flags = 0
            for i in range(64):
                for j in range(i, 64):
                    flag, cell = cov(kind, rows[i], rows[j])
                    flags |= flag
                    self.assertEqual([got[1 + 64 * i + j], got[1 + 64 * j + i]], [cell, cell])
            self.assertEqual(got[0], flags)

    def test_covs_of_rows_beyond_240_cells(self):
        rows = [ref.spread_cells(9, 4096, i) for i in range(2)]
        self.assertEqual(covs(9, rows), ref.covs(9, rows))

    def test_pairs(self):
        # Each place with each is too many for the reference: rows whose counts follow from how they're made.
        for kind in ref.ALL_KINDS:
            rising = list(range(128)) * 32
            falling = [127 - cell for cell in rising]
            # Of each of 128 values 32 cells.
            alike = 128 * (32 * 31 // 2)
            rest = 4096 * 4095 // 2 - alike
            self.assertEqual(self.in_time(pairs, kind, rising, rising), [0, rest, 0, alike, 0])
            self.assertEqual(self.in_time(pairs, kind, rising, falling), [0, 0, rest, alike, 0])
            self.assertEqual(sum(pairs(kind, ref.mixed_cells(kind, 4096, 1), ref.mixed_cells(kind, 4096, 2))), 4096 * 4095 // 2)

    def test_pairs_against_the_reference(self):
        for kind in ref.ALL_KINDS:
            x, y = ref.mixed_cells(kind, 600, kind), ref.mixed_cells(kind, 600, kind + 20)
            self.assertEqual(self.in_time(pairs, kind, x, y), ref.pairs(kind, x, y))

    def test_draws(self):
        key = [1, 2 ** 32 - 1, 3, 2 ** 31]
        self.assertEqual(len(self.in_time(again, 5, 2 ** 64 - 9, 2 ** 32 - 5, 4096, key)), 4097)
        self.assertEqual(len(self.in_time(shuffle, 5, 2 ** 64 - 9, 4096, key)), 4097)
