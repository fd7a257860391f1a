"""Rows of 4,096 cells, with exponents far apart: answered exactly, whatever their order, in ordinary time."""

import bisect
import time
import unittest

from exactrows.figures import mean, moments, quant, ranks, sort, weigh
from tests import reference as ref

SECONDS = 20


def mixed_up(row):
    """The row's cells in another order."""
    return [row[i] for i in sorted(range(len(row)), key=lambda i: (i * 2654435761) % 4099)]


class LongRows(unittest.TestCase):
    def in_time(self, call, *args):
        begin = time.monotonic()
        got = call(*args)
        self.assertLess(time.monotonic() - begin, SECONDS)
        return got

    def test_mean_moments_weigh(self):
        for kind in ref.KINDS:
            x = ref.spread_cells(kind, 4096, kind)
            w = ref.spread_cells(kind, 4096, kind + 100)
            self.assertEqual(self.in_time(mean, kind, x), ref.mean(kind, x))
            self.assertEqual(self.in_time(moments, kind, x), ref.moments(kind, x))
            self.assertEqual(self.in_time(weigh, kind, x, w), ref.weigh(kind, x, w))

    def test_moments_that_are_not_too_great(self):
        # From the least cells up to about 2^200: c4 still has a number in kind 12.
        x = ref.spread_cells(12, 4096, 5, 0, 1223)
        got = moments(12, x)
        self.assertEqual(got, ref.moments(12, x))
        self.assertEqual(got[0], 16)

    def test_the_order_changes_nothing(self):
        x = ref.spread_cells(12, 4096, 3)
        w = ref.spread_cells(12, 4096, 4)
        self.assertEqual(mean(12, mixed_up(x)), mean(12, x))
        self.assertEqual(moments(12, sorted(x)), moments(12, x))
        self.assertEqual(weigh(12, mixed_up(x), mixed_up(w)), weigh(12, x, w))

    def test_sort_and_ranks(self):
        for kind in ref.ALL_KINDS:
            x = ref.mixed_cells(kind, 4096, kind)
            told = ref.sort(kind, x)
            self.assertEqual(self.in_time(sort, kind, x), told)
            got = self.in_time(ranks, kind, x)
            self.assertEqual(sum(got[1:]), 4096 * 4097)
            # The value alone, without the sign of a nought.
            values = [ref.order(kind, cell)[:2] for cell in told[1:]]
            keys = [ref.order(kind, cell)[:2] for cell in x]
            self.assertEqual(got, [0] + [bisect.bisect_left(values, key) + bisect.bisect_right(values, key) + 1 for key in keys])

    def test_quant(self):
        for kind in ref.KINDS:
            fractions = []
            for i in range(4096):
                fractions += [i * 1048571, 2 ** 32 - 1 - i]
            x = ref.spread_cells(kind, 4096, kind)
            got = self.in_time(quant, kind, x, fractions)
            self.assertEqual(got, ref.quant(kind, x, fractions))
            self.assertEqual(quant(kind, mixed_up(x), fractions), got)
