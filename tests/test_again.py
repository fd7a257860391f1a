"""Call 14: again."""

import unittest

from exactrows.figures import again
from tests import second_mill
from tests.test_draws import KEYS, LAST, LAST_WORD

FIRSTS = [0, 1, LAST_WORD - 2, LAST_WORD, 2 ** 32, 2 ** 63, LAST - 3, LAST]
STREAMS = [0, 1, LAST_WORD, 2 ** 32, LAST - 1, LAST]


class Answers(unittest.TestCase):
    def test_against_the_second_writing(self):
        for key in KEYS:
            for stream in STREAMS:
                for first in FIRSTS:
                    for n in (1, 2, 3, 10, 2 ** 31, LAST_WORD, 2 ** 32):
                        self.assertEqual(again(stream, first, n, 6, key), second_mill.again(stream, first, n, 6, key))

    def test_none_are_drawn(self):
        for key in KEYS:
            for n in (1, 10, 2 ** 32):
                self.assertEqual(again(5, LAST, n, 0, key), [0])

    def test_below_1(self):
        self.assertEqual(again(3, 5, 1, 10, KEYS[1]), [0] + [0] * 10)

    def test_a_power_of_2(self):
        for bits in (1, 5, 16, 32):
            told = [second_mill.mill(KEYS[4], 77, place) % 2 ** bits for place in range(50)]
            self.assertEqual(again(77, 0, 2 ** bits, 50, KEYS[4]), [0] + told)

    def test_as_many_as_may_be(self):
        for n in (10, 2 ** 32 - 5):
            got = again(9, LAST - 2000, n, 4096, KEYS[1])
            self.assertEqual(got, second_mill.again(9, LAST - 2000, n, 4096, KEYS[1]))
            self.assertEqual(len(got), 4097)
            self.assertTrue(all(0 <= number < n for number in got))

    def test_all_numbers_below_a_small_n_are_drawn(self):
        self.assertEqual(sorted(set(again(1, 0, 10, 300, KEYS[1])[1:])), list(range(10)))

    def test_tries_that_are_passed_over(self):
        # The mill run backwards from numbers below 2^64 modulo n: the first try is passed over.
        for key in KEYS:
            for n in (3 * 2 ** 30 + 5, LAST_WORD - 4, 10):
                left_over = 2 ** 64 % n
                self.assertGreater(left_over, 0)
                for number, tries in ((0, 2), (left_over - 1, 2), (left_over, 1)):
                    stream, place = second_mill.unmill(key, (number, 0, 12345, 67890))
                    self.assertEqual(len(second_mill.tries_of(key, stream, place, n)), tries)
                    told = second_mill.below(key, stream, place, n)
                    self.assertEqual(again(stream, place, n, 1, key), [0, told])
                    if tries == 1:
                        self.assertEqual(told, number)
                    else:
                        other = key[:3] + [key[3] ^ 1]
                        self.assertEqual(told, second_mill.mill(other, stream, place) % n)


class Places(unittest.TestCase):
    def test_one_behind_another(self):
        for key in KEYS:
            for first in FIRSTS:
                for n in (7, 2 ** 32):
                    whole = again(4, first, n, 9, key)
                    for m in range(10):
                        begin = again(4, first, n, m, key)
                        rest = again(4, (first + m) % 2 ** 64, n, 9 - m, key)
                        self.assertEqual(begin + rest[1:], whole)

    def test_past_the_last_place_they_begin_again_at_0(self):
        for key in KEYS:
            begin = again(4, 0, 1000, 5, key)
            self.assertEqual(again(4, LAST, 1000, 6, key)[2:], begin[1:])
            self.assertEqual(again(4, LAST - 1, 1000, 7, key)[3:], begin[1:])
            self.assertEqual(again(4, LAST, 1000, 1, key), again(4, LAST, 1000, 6, key)[:2])

    def test_key_stream_and_place_each_count(self):
        key = [11, 22, 33, 44]
        told = again(5, 6, 2 ** 32, 4, key)
        for i in range(4):
            for other in (key[i] ^ 1, key[i] ^ 2 ** 31):
                self.assertNotEqual(again(5, 6, 2 ** 32, 4, key[:i] + [other] + key[i + 1:]), told)
        for stream in (4, 5 + 2 ** 32, 5 + 2 ** 63):
            self.assertNotEqual(again(stream, 6, 2 ** 32, 4, key), told)
        for first in (7, 6 + 2 ** 32, 6 + 2 ** 63):
            self.assertNotEqual(again(5, first, 2 ** 32, 4, key), told)


class Refusals(unittest.TestCase):
    def test_a_key_of_another_length(self):
        for key in ([], [1], [1, 2, 3], [1, 2, 3, 4, 5], [1] * 8):
            self.assertEqual(again(0, 0, 10, 3, key), [-1])
            self.assertEqual(again(0, 0, 10, 0, key), [-1])

    def test_a_key_s_number_that_is_too_great(self):
        for i in range(4):
            for number in (2 ** 32, 2 ** 32 + 1, LAST):
                key = [1, 2, 3, 4]
                key[i] = number
                self.assertEqual(again(0, 0, 10, 3, key), [-1])
                self.assertEqual(again(0, 0, 10, 0, key), [-1])
                key[i] = LAST_WORD
                self.assertEqual(again(0, 0, 10, 3, key), second_mill.again(0, 0, 10, 3, key))

    def test_n(self):
        for n in (0, 2 ** 32 + 1, 2 ** 33, LAST):
            for m in (0, 1, 5):
                self.assertEqual(again(0, 0, n, m, KEYS[1]), [-1])
        self.assertEqual(again(3, 4, 2 ** 32, 2, KEYS[1]), second_mill.again(3, 4, 2 ** 32, 2, KEYS[1]))

    def test_m(self):
        for m in (4097, 4200, 2 ** 32, LAST):
            for n in (1, 10, 2 ** 32):
                self.assertEqual(again(0, 0, n, m, KEYS[1]), [-1])
