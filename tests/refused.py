"""The refusals that several calls have alike, for their tests to take over with the call."""

from tests import reference as ref


class OneRow:
    """Of a call with one row of any kind."""

    call = None

    def test_other_kinds(self):
        for kind in ref.OTHER_KINDS:
            for x in ([], [0], [3, 2, 1], [2 ** 64 - 1], [0] * 4097):
                self.assertEqual(self.call(kind, x), [-1])

    def test_numbers_that_are_no_cells(self):
        for kind in ref.ALL_KINDS:
            self.assertEqual(self.call(kind, [2 ** (8 * ref.BYTES[kind]) - 1])[0], 0)
            for number in ref.no_cells(kind):
                for x in ([number], [number, 0], [0, number], [1, number, 2, 3]):
                    self.assertEqual(self.call(kind, x), [-1])

    def test_a_row_that_is_too_long(self):
        for kind in ref.ALL_KINDS:
            self.assertEqual(self.call(kind, [1] * 4096)[0], 0)
            for n in (4097, 4200):
                self.assertEqual(self.call(kind, [1] * n), [-1])


class TwoRows:
    """Of a call with two rows of a floating kind that go together."""

    call = None

    def test_other_kinds(self):
        for kind in ref.OTHER_KINDS + ref.WHOLE_KINDS:
            for x in ([], [0], [1, 2], [0] * 4097):
                self.assertEqual(self.call(kind, x, x), [-1])

    def test_numbers_that_are_no_cells(self):
        for kind in ref.KINDS:
            for number in ref.no_cells(kind):
                for x, y in (([number], [0]), ([0], [number]), ([0, number], [ref.none(kind), 0]), ([1, 2], [1, number]),
                             ([1, 1], [1, number])):
                    self.assertEqual(self.call(kind, x, y), [-1])

    def test_rows_of_different_lengths(self):
        for kind in ref.KINDS:
            for x, y in (([1], []), ([], [1]), ([1, 2], [1]), ([1], [1, 2]), ([ref.none(kind)], [1, 2]),
                         ([1] * 4096, [1] * 4095), ([1] * 4096, [1] * 4097), ([1] * 4097, [1] * 4096)):
                self.assertEqual(self.call(kind, x, y), [-1])

    def test_rows_that_are_too_long(self):
        for kind in ref.KINDS:
            self.assertIn(self.call(kind, [1] * 4095 + [2], [2] * 4095 + [4])[0], (0, 16, 24))
            for n in (4097, 4200):
                for cell in (1, ref.none(kind)):
                    self.assertEqual(self.call(kind, [cell] * n, [1] * n), [-1])

    def test_no_cells(self):
        for kind in ref.KINDS:
            self.assertEqual(self.call(kind, [], []), [-4])
