"""Rows of 4,096 cells with exponents far apart: answered exactly, whatever their order, in ordinary time."""

import time
import unittest

from exactrows.figures import mean, moments, weigh
from tests import reference as ref

SECONDS = 20


class LongRows(unittest.TestCase):
    def test_each_kind(self):
        for kind in ref.KINDS:
            x = ref.spread_cells(kind, 4096, kind)
            w = ref.spread_cells(kind, 4096, kind + 100)
            begin = time.monotonic()
            got = [mean(kind, x), moments(kind, x), weigh(kind, x, w)]
            self.assertLess(time.monotonic() - begin, SECONDS)
            self.assertEqual(got, [ref.mean(kind, x), ref.moments(kind, x), ref.weigh(kind, x, w)])

    def test_moments_that_are_not_too_great(self):
        # From the least cells up to about 2^200: c4 still has a number in kind 12.
        x = ref.spread_cells(12, 4096, 5, 0, 1223)
        got = moments(12, x)
        self.assertEqual(got, ref.moments(12, x))
        self.assertEqual(got[0], 16)

    def test_the_order_changes_nothing(self):
        x = ref.spread_cells(12, 4096, 3)
        w = ref.spread_cells(12, 4096, 4)
        places = sorted(range(4096), key=lambda i: (i * 2654435761) % 4099)
        self.assertEqual(mean(12, [x[i] for i in places]), mean(12, x))
        self.assertEqual(moments(12, sorted(x)), moments(12, x))
        self.assertEqual(weigh(12, [x[i] for i in places], [w[i] for i in places]), weigh(12, x, w))
