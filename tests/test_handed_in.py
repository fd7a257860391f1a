"""What is handed in stays as it is, and nothing is kept from one call to the next."""

import unittest

from exactrows.figures import mean, moments, weigh
from tests import reference as ref


class ReadOnly(list):
    """A list that can't be changed, not for a while either."""

    def refuse(self, *args, **kwargs):
        raise AssertionError("a list that was handed in was changed")

    append = clear = extend = insert = pop = remove = reverse = sort = refuse
    __setitem__ = __delitem__ = __iadd__ = __imul__ = refuse


def rows(kind):
    """Rows that are answered, then rows that are refused."""
    one = ref.cell_of(kind, 1.0)
    return [
        [one + 3, one, ref.sign_bit(kind), 7], ref.spread_cells(kind, 20, kind), [one],
        [one, ref.none(kind) + 1, ref.negative(kind, ref.infinite(kind))], [0, 0, ref.sign_bit(kind)],
        [], [one] * 4097, [one, 2 ** 64 - 1],
    ]


def calls(kind, x, w):
    return [mean(kind, x), moments(kind, x), weigh(kind, x, w), weigh(kind, w, x), weigh(kind, x, w[1:])]


class HandedIn(unittest.TestCase):
    def test_nothing_is_changed(self):
        for kind in ref.KINDS + [0, 1, 8, 13]:
            for row in rows(kind if kind in ref.KINDS else 9):
                x = ReadOnly(row)
                w = ReadOnly(reversed(row))
                calls(kind, x, w)
                self.assertEqual(list(x), row)
                self.assertEqual(list(w), row[::-1])

    def test_one_list_as_both_rows(self):
        for kind in ref.KINDS:
            row = ref.row_of(kind, [1.0, 2.0, 5.0])
            self.assertEqual(weigh(kind, row, row), [0, ref.cell_of(kind, 3.75)])
            self.assertEqual(row, ref.row_of(kind, [1.0, 2.0, 5.0]))


class NothingKept(unittest.TestCase):
    def test_a_call_again_answers_the_same(self):
        first = {}
        for turn in range(2):
            for kind in ref.KINDS + [0, 13]:
                for i, row in enumerate(rows(kind if kind in ref.KINDS else 9)):
                    got = calls(kind, row, row[::-1])
                    self.assertEqual(got, first.setdefault((kind, i), got))

    def test_an_answer_that_is_changed_changes_no_other(self):
        for kind in ref.KINDS:
            for row in rows(kind):
                told = calls(kind, row, row[::-1])
                for answer in calls(kind, row, row[::-1]):
                    answer.clear()
                self.assertEqual(calls(kind, row, row[::-1]), told)

    def test_answers_are_lists_of_whole_numbers(self):
        for kind in ref.KINDS + [0]:
            for row in rows(kind if kind in ref.KINDS else 9):
                for answer in calls(kind, row, row[::-1]):
                    self.assertIs(type(answer), list)
                    self.assertEqual({type(number) for number in answer}, {int})
