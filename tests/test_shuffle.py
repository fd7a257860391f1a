"""Call 15: shuffle."""

import unittest

from exactrows.figures import again, shuffle
from tests import second_mill
from tests.test_again import FIRSTS, STREAMS
from tests.test_draws import KEYS, LAST, LAST_WORD


class Answers(unittest.TestCase):
    def test_against_the_second_writing(self):
        for key in KEYS:
            for stream in STREAMS:
                for first in FIRSTS:
                    for n in (0, 1, 2, 3, 8):
                        self.assertEqual(shuffle(stream, first, n, key), second_mill.shuffle(stream, first, n, key))

    def test_none_and_one(self):
        for key in KEYS:
            for first in FIRSTS:
                self.assertEqual(shuffle(5, first, 0, key), [0])
                self.assertEqual(shuffle(5, first, 1, key), [0, 0])

    def test_two_are_exchanged_or_not(self):
        seen = set()
        for place in range(20):
            # Below 2 of the first place: 1 leaves them, 0 exchanges them.
            drawn = again(5, place, 2, 1, KEYS[1])[1]
            self.assertEqual(shuffle(5, place, 2, KEYS[1]), [0, 0, 1] if drawn == 1 else [0, 1, 0])
            seen.add(drawn)
        self.assertEqual(seen, {0, 1})

    def test_three_by_two_places(self):
        for place in list(range(20)) + [LAST]:
            first = again(5, place, 3, 1, KEYS[1])[1]
            second = again(5, (place + 1) % 2 ** 64, 2, 1, KEYS[1])[1]
            row = [0, 1, 2]
            row[2], row[first] = row[first], row[2]
            row[1], row[second] = row[second], row[1]
            self.assertEqual(shuffle(5, place, 3, KEYS[1]), [0] + row)

    def test_an_order_of_all(self):
        for key in KEYS:
            for n in (2, 5, 10, 100, 1000):
                got = shuffle(3, LAST - 50, n, key)
                self.assertEqual(got[0], 0)
                self.assertEqual(sorted(got[1:]), list(range(n)))

    def test_as_many_as_may_be(self):
        got = shuffle(9, LAST - 2000, 4096, KEYS[4])
        self.assertEqual(got, second_mill.shuffle(9, LAST - 2000, 4096, KEYS[4]))
        self.assertEqual(sorted(got[1:]), list(range(4096)))
        self.assertNotEqual(got[1:], list(range(4096)))

    def test_all_orders_of_three_come(self):
        self.assertEqual(len({tuple(shuffle(0, place, 3, KEYS[1])) for place in range(200)}), 6)

    def test_key_stream_and_place_each_count(self):
        key = [11, 22, 33, 44]
        told = shuffle(5, 6, 50, key)
        for i in range(4):
            self.assertNotEqual(shuffle(5, 6, 50, key[:i] + [key[i] ^ 1] + key[i + 1:]), told)
        self.assertNotEqual(shuffle(5 + 2 ** 32, 6, 50, key), told)
        self.assertNotEqual(shuffle(5, 6 + 2 ** 32, 50, key), told)


class Refusals(unittest.TestCase):
    def test_a_key_of_another_length(self):
        for key in ([], [1], [1, 2, 3], [1, 2, 3, 4, 5], [1] * 8):
            for n in (0, 1, 10):
                self.assertEqual(shuffle(0, 0, n, key), [-1])

    def test_a_key_s_number_that_is_too_great(self):
        for i in range(4):
            for number in (2 ** 32, 2 ** 32 + 1, LAST):
                key = [1, 2, 3, 4]
                key[i] = number
                for n in (0, 1, 10):
                    self.assertEqual(shuffle(0, 0, n, key), [-1])
                key[i] = LAST_WORD
                self.assertEqual(shuffle(0, 0, 5, key), second_mill.shuffle(0, 0, 5, key))

    def test_n(self):
        for n in (4097, 4200, 2 ** 32, LAST):
            self.assertEqual(shuffle(0, 0, n, KEYS[1]), [-1])
