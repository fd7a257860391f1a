"""The refusals of mean, moments and weigh: the list of one number alone, by the first reason that holds."""

import unittest

from exactrows.figures import mean, moments, weigh
from tests import reference as ref

OTHER_KINDS = list(range(0, 9)) + [13, 14, 16, 41, 2 ** 16 + 9, 2 ** 32 + 12, 2 ** 63, 2 ** 64 - 1]


def answers(kind, x):
    """What each call answers for one row; weigh takes the row by itself, then as its own weights beside ones."""
    ones = [ref.cell_of(kind, 1.0) if kind in ref.KINDS else 1] * len(x)
    return [mean(kind, x), moments(kind, x), weigh(kind, x, ones), weigh(kind, ones, x)]


class Kinds(unittest.TestCase):
    def test_kinds_that_the_calls_do_not_have(self):
        for kind in OTHER_KINDS:
            for x in ([1], [0, 1, 2], [], [2 ** 64 - 1], [1] * 4097):
                self.assertEqual(answers(kind, x), [[-1]] * 4)

    def test_kinds_that_they_have(self):
        for kind in (9, 10, 11, 12):
            self.assertEqual(answers(kind, [1])[:2], [[0, 1], [0, 1, 0, ref.none(kind), 0, 0]])
            self.assertEqual(answers(kind, [1])[2:], [[0, 1], [0, ref.cell_of(kind, 1.0)]])


class Cells(unittest.TestCase):
    def test_numbers_that_are_no_cells(self):
        for kind, bits in ((9, 16), (10, 16), (11, 32)):
            for number in (2 ** bits, 2 ** bits + 1, 2 ** 63, 2 ** 64 - 1):
                for x in ([number], [1, number], [number, 1, 2], [1, 2, number, 3]):
                    self.assertEqual(answers(kind, x), [[-1]] * 4)

    def test_the_last_cell(self):
        for kind, bits in ((9, 16), (10, 16), (11, 32), (12, 64)):
            none = ref.none(kind)
            self.assertEqual(answers(kind, [2 ** bits - 1]), [[0, none], [0] + [none] * 5, [0, none], [0, none]])

    def test_ahead_of_none_and_of_sum_0(self):
        for kind, bits in ((9, 16), (10, 16), (11, 32)):
            self.assertEqual(answers(kind, [ref.none(kind), 2 ** bits]), [[-1]] * 4)
            self.assertEqual(answers(kind, [ref.infinite(kind), 2 ** bits, 1]), [[-1]] * 4)
            self.assertEqual(weigh(kind, [1, 2 ** bits], [0, 0]), [-1])
            self.assertEqual(weigh(kind, [2 ** bits, 1], [ref.none(kind), 0]), [-1])
            self.assertEqual(weigh(kind, [ref.none(kind)], [2 ** bits]), [-1])


class Lengths(unittest.TestCase):
    def test_rows_of_different_lengths(self):
        for kind in ref.KINDS:
            one = ref.cell_of(kind, 1.0)
            for x, w in (([one], [one, one]), ([one, one], [one]), ([], [one]), ([one], []), ([one, one], [0, 0, 0]),
                         ([ref.none(kind)], [one, one]), ([one] * 4096, [one] * 4095), ([one] * 4096, [one] * 4097)):
                self.assertEqual(weigh(kind, x, w), [-1])

    def test_the_longest_row_is_answered(self):
        for kind in ref.KINDS:
            one = ref.cell_of(kind, 1.0)
            self.assertEqual(answers(kind, [one] * 4096), [[0, one], [0, one, 0, 0, 0, 0], [0, one], [0, one]])

    def test_a_longer_one_is_not(self):
        for kind in ref.KINDS:
            one = ref.cell_of(kind, 1.0)
            for n in (4097, 4200):
                for cell in (one, 0, ref.none(kind), ref.infinite(kind)):
                    self.assertEqual(answers(kind, [cell] * n), [[-1]] * 4)
                self.assertEqual(weigh(kind, [one] * n, [0] * n), [-1])

    def test_no_cells(self):
        for kind in ref.KINDS:
            self.assertEqual(answers(kind, []), [[-4]] * 4)

    def test_no_cells_and_a_reason_for_1(self):
        for kind in OTHER_KINDS:
            self.assertEqual(answers(kind, []), [[-1]] * 4)
        for kind in ref.KINDS:
            self.assertEqual(weigh(kind, [], [1]), [-1])
            self.assertEqual(weigh(kind, [1], []), [-1])
            self.assertEqual(weigh(kind, [], [2 ** 64 - 1]), [-1])
            self.assertEqual(weigh(kind, [], [0] * 4097), [-1])
