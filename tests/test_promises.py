"""The four promises of the document, over the whole program."""

import unittest

from exactrows.figures import again, corr, cov, covs, hist, line, mean, moments, most, pairs, quant, ranks, shuffle, sort
from exactrows.figures import weigh
from tests import reference as ref
from tests.test_draws import KEYS, LAST

FRACTIONS = [0, 1, 1, 4, 1, 3, 1, 2, 7, 9, 1, 1]


def floating_rows(kind):
    """Two rows that go together, of different sizes of numbers, some with other cells."""
    middle = 2 ** (ref.BITS[kind][0] - 1)
    for n in (2, 5, 12):
        for low, high in ((0, None), (middle - 3, middle + 3), (0, 2)):
            yield (ref.spread_cells(kind, n, kind + n, low, high), ref.spread_cells(kind, n, kind + n + 1, low, high))
        yield ref.mixed_cells(kind, n, kind + n), ref.mixed_cells(kind, n, kind + n + 1)


def orders(n):
    """Other orders of n places."""
    yield list(range(n))[::-1]
    for step in (1, n // 2):
        yield [(i + step) % n for i in range(n)]


class FirstPromise(unittest.TestCase):
    """Each number told is the exact one of the cells, rounded once, whatever the cells' order."""

    def test_the_exact_one(self):
        for kind in ref.KINDS:
            for x, y in floating_rows(kind):
                self.assertEqual(mean(kind, x), ref.mean(kind, x))
                self.assertEqual(moments(kind, x), ref.moments(kind, x))
                self.assertEqual(quant(kind, x, FRACTIONS), ref.quant(kind, x, FRACTIONS))
                self.assertEqual(weigh(kind, x, y), ref.weigh(kind, x, y))
                self.assertEqual(cov(kind, x, y), ref.cov(kind, x, y))
                self.assertEqual(covs(kind, [x, y, x]), ref.covs(kind, [x, y, x]))
                self.assertEqual(corr(kind, x, y), ref.corr(kind, x, y))
                self.assertEqual(line(kind, x, y), ref.line(kind, x, y))

    def test_whatever_the_order(self):
        for kind in ref.KINDS:
            for x, y in floating_rows(kind):
                for order in orders(len(x)):
                    a, b = [x[i] for i in order], [y[i] for i in order]
                    for call in (mean, moments, sort, most):
                        self.assertEqual(call(kind, a), call(kind, x))
                    for call in (weigh, cov, corr, line, pairs):
                        self.assertEqual(call(kind, a, b), call(kind, x, y))
                    self.assertEqual(quant(kind, a, FRACTIONS), quant(kind, x, FRACTIONS))
                    self.assertEqual(covs(kind, [a, b]), covs(kind, [x, y]))

    def test_counts_whatever_the_order(self):
        for kind in ref.ALL_KINDS:
            x, y = ref.mixed_cells(kind, 12, kind), ref.mixed_cells(kind, 12, kind + 1)
            for order in orders(12):
                a, b = [x[i] for i in order], [y[i] for i in order]
                for call in (sort, most):
                    self.assertEqual(call(kind, a), call(kind, x))
                self.assertEqual(pairs(kind, a, b), pairs(kind, x, y))
                self.assertEqual(hist(kind, a, [1, 3, 9]), hist(kind, x, [1, 3, 9]))
                told = ranks(kind, x)
                self.assertEqual(ranks(kind, a), [0] + [told[1 + i] for i in order])


class SecondPromise(unittest.TestCase):
    def test_sorted_ranked_and_binned(self):
        for kind in ref.ALL_KINDS:
            for n in (0, 1, 2, 9, 50):
                x = ref.mixed_cells(kind, n, kind + n)
                told = sort(kind, x)[1:]
                self.assertEqual(sorted(told), sorted(ref.one_form(kind, cell) for cell in x))
                self.assertEqual(told, sorted(told, key=lambda cell: ref.order(kind, cell)))
                self.assertEqual(sum(ranks(kind, x)), n * (n + 1))
                for edges in ([1, 2], [0, 5, 9, 100], [3, 4, 5]):
                    self.assertEqual(sum(hist(kind, x, edges)), n)

    def test_a_quantile_of_numbers_lies_between_two_neighbours(self):
        for kind in ref.KINDS:
            for n in (2, 3, 8):
                x = ref.spread_cells(kind, n, kind + n)
                ordered = [ref.value(kind, cell) for cell in sort(kind, x)[1:]]
                for a in range(14):
                    told = ref.value(kind, quant(kind, x, [a, 13])[1])
                    i = (n - 1) * a // 13
                    self.assertLessEqual(ordered[i], told)
                    self.assertLessEqual(told, ordered[min(i + 1, n - 1)])


class ThirdPromise(unittest.TestCase):
    def test_corr_lies_between_minus_1_and_1(self):
        for kind in ref.KINDS:
            for x, y in floating_rows(kind):
                told = corr(kind, x, y)
                if told != [0, ref.none(kind)]:
                    self.assertLessEqual(abs(ref.number(kind, told[1])), 1)
            # Rows that nearly go together.
            one = ref.cell_of(kind, 1.0)
            for i in range(1, 6):
                self.assertLessEqual(corr(kind, [one, one + 1, one + 2, one + 7], [one, one + 1, one + 2, one + 7 + i])[1], one)

    def test_cov_of_a_row_with_itself_is_its_c2(self):
        for kind in ref.KINDS:
            for rows in floating_rows(kind):
                for x in rows:
                    self.assertEqual(cov(kind, x, x)[1], moments(kind, x)[2])
                    self.assertEqual(covs(kind, [x])[1], moments(kind, x)[2])

    def test_the_line_of_the_sums(self):
        # Points that lie on a line with slope and height that the kind holds: both sums are 0 with what's told.
        for kind in ref.KINDS:
            for slope, height in ((2, -3), (-0.5, 4), (0.25, 0.75), (0, 1)):
                x = [1.0, 4.0, -2.0, 8.0]
                told = line(kind, ref.row_of(kind, x), ref.row_of(kind, [height + slope * a for a in x]))
                self.assertEqual(told, [0] + ref.row_of(kind, [float(slope), float(height)]))
        # Points that don't: with the exact slope and height, which are cells here too.
        for kind in ref.KINDS:
            x, y = [0.0, 1.0, 2.0, 3.0, 4.0], [1.0, 5.0, 2.0, 7.0, 10.0]
            told = line(kind, ref.row_of(kind, x), ref.row_of(kind, y))
            slope, height = [ref.number(kind, cell) for cell in told[1:]]
            self.assertEqual(told[0], 0)
            self.assertEqual(sum(b - height - slope * a for a, b in zip(x, y)), 0)
            self.assertEqual(sum((b - height - slope * a) * a for a, b in zip(x, y)), 0)


class FourthPromise(unittest.TestCase):
    def test_draws_one_behind_another(self):
        for key in KEYS:
            for first in (0, 5, 2 ** 32 - 3, LAST - 3, LAST):
                for m, k in ((0, 4), (4, 0), (3, 5), (7, 1)):
                    for n in (1, 6, 2 ** 32):
                        whole = again(8, first, n, m + k, key)
                        self.assertEqual(whole, again(8, first, n, m, key) + again(8, (first + m) % 2 ** 64, n, k, key)[1:])

    def test_a_shuffle_is_an_order(self):
        for key in KEYS:
            for n in (0, 1, 2, 3, 30, 4096):
                self.assertEqual(sorted(shuffle(8, LAST, n, key)[1:]), list(range(n)))
