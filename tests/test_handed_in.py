"""What is handed in stays as it is, and nothing is kept from one call to the next."""

import copy
import unittest

from exactrows.figures import weigh
from tests import reference as ref
from tests.examples import call, examples


class ReadOnly(list):
    """A list that can't be changed, not for a while either."""

    def refuse(self, *args, **kwargs):
        raise AssertionError("a list that was handed in was changed")

    append = clear = extend = insert = pop = remove = reverse = sort = refuse
    __setitem__ = __delitem__ = __iadd__ = __imul__ = refuse


def read_only(value):
    return ReadOnly(read_only(inner) for inner in value) if isinstance(value, list) else value


class HandedIn(unittest.TestCase):
    def test_nothing_is_changed(self):
        for name, args in examples():
            handed = [read_only(arg) for arg in args]
            call(name, handed)
            self.assertEqual(handed, list(args), name)
            plain = copy.deepcopy(args)
            call(name, plain)
            self.assertEqual(plain, args, name)

    def test_one_list_as_both_rows(self):
        for kind in ref.KINDS:
            row = ref.row_of(kind, [1.0, 2.0, 5.0])
            self.assertEqual(weigh(kind, row, row), [0, ref.cell_of(kind, 3.75)])
            self.assertEqual(row, ref.row_of(kind, [1.0, 2.0, 5.0]))

    def test_an_answer_is_a_list_of_its_own(self):
        for name, args in examples():
            handed = copy.deepcopy(args)
            call(name, handed).append(7)
            self.assertEqual(handed, args, name)


class NothingKept(unittest.TestCase):
    def test_a_call_again_answers_the_same(self):
        first = [call(name, args) for name, args in examples()]
        self.assertEqual([call(name, args) for name, args in examples()], first)
        backwards = [call(name, args) for name, args in reversed(examples())]
        self.assertEqual(backwards[::-1], first)

    def test_an_answer_that_is_changed_changes_no_other(self):
        for name, args in examples():
            told = call(name, args)
            call(name, args).clear()
            self.assertEqual(call(name, args), told, name)

    def test_answers_are_lists_of_whole_numbers(self):
        for name, args in examples():
            answer = call(name, args)
            self.assertIs(type(answer), list, name)
            self.assertEqual({type(number) for number in answer}, {int}, name)

    def test_refusals_stand_alone_and_both_ways_are_among_the_examples(self):
        answered, refused = set(), set()
        for name, args in examples():
            answer = call(name, args)
            if answer[0] < 0:
                self.assertIn(answer, ([-1], [-2], [-4]), name)
                refused.add(name)
            else:
                self.assertTrue(all(number >= 0 for number in answer), name)
                answered.add(name)
        self.assertEqual(answered, refused)
