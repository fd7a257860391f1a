"""Section 3: the mill, its number, below, against a second writing of them."""

import unittest
from unittest import mock

from exactrows import draws
from exactrows.draws import below, mill_number, turned
from tests import reference as ref
from tests import second_mill

LAST_WORD = 2 ** 32 - 1
LAST = 2 ** 64 - 1
KEYS = [[0, 0, 0, 0], [1, 2, 3, 4], [LAST_WORD] * 4, [LAST_WORD, 0, 2 ** 31, 1], [0xDEADBEEF, 0x01234567, 0x89ABCDEF, 63]]
NUMBERS = [0, 1, 2 ** 31, LAST_WORD - 1, LAST_WORD, 2 ** 32, 2 ** 32 + 1, 2 ** 63, LAST - 1, LAST, 0x0123456789ABCDEF]


class Mill(unittest.TestCase):
    def test_turned_left(self):
        self.assertEqual([turned(1, bits) for bits in (7, 11, 16, 19)], [2 ** 7, 2 ** 11, 2 ** 16, 2 ** 19])
        self.assertEqual([turned(2 ** 31, bits) for bits in (7, 11, 16, 19)], [2 ** 6, 2 ** 10, 2 ** 15, 2 ** 18])
        self.assertEqual(turned(0x12345678, 16), 0x56781234)
        self.assertEqual(turned(LAST_WORD, 7), LAST_WORD)
        self.assertEqual(turned(0, 7), 0)

    def test_one_round_by_hand(self):
        # With key, stream and place 0 all words are 0 up to the end of round 0: b = 0 + 0 + 0, turned nothing.
        state = second_mill.mix((0, 0, 0, 0), [0, 0, 0, 0], 0)
        self.assertEqual(state, (0, 0, 0, 0))
        # In round 1 only b changes, to 1, and moves to a.
        self.assertEqual(second_mill.mix(state, [0, 0, 0, 0], 1), (1, 0, 0, 0))
        # In round 2: a 1; d 2^16; c 2^16 * 2654435769 = 0x79B90000; b that turned by 11, 0xC80003CD;
        # a 0xC80003CE; d (2^16 xor a) turned by 7, 0x0081E764; c with d turned by 19; b with c's product and 2.
        a = 0xC80003CE
        d = 0x0081E764
        c = 0x79B90000 ^ (((d << 19) | (d >> 13)) & LAST_WORD)
        b = (0xC80003CD + c * 2246822519 + 2) & LAST_WORD
        self.assertEqual(second_mill.mix((1, 0, 0, 0), [0, 0, 0, 0], 2), (b, c, d, a))

    def test_against_the_second_writing(self):
        for key in KEYS:
            for stream in NUMBERS:
                for place in NUMBERS:
                    self.assertEqual(mill_number(key, stream, place), second_mill.mill(key, stream, place))

    def test_scattered(self):
        numbers = ref.scattered(600, 1)
        for i in range(0, 600, 6):
            key = [number % 2 ** 32 for number in numbers[i:i + 4]]
            self.assertEqual(mill_number(key, numbers[i + 4], numbers[i + 5]),
                             second_mill.mill(key, numbers[i + 4], numbers[i + 5]))

    def test_the_second_writing_backwards(self):
        for key in KEYS:
            for state in ((0, 0, 0, 0), (1, 2, 3, 4), (LAST_WORD, 0, 5, LAST_WORD)):
                stream, place = second_mill.unmill(key, state)
                self.assertEqual(mill_number(key, stream, place), state[0] + 2 ** 32 * state[1])

    def test_the_key_is_not_changed(self):
        key = [5, 6, 7, 8]
        mill_number(key, 1, 2)
        below(key, 1, 2, 2 ** 63 + 1)
        self.assertEqual(key, [5, 6, 7, 8])


class Below(unittest.TestCase):
    def test_1_is_always_0(self):
        for key in KEYS:
            self.assertEqual([below(key, number, number, 1) for number in NUMBERS], [0] * len(NUMBERS))

    def test_powers_of_2_are_the_number_s_lowest_bits(self):
        for key in KEYS:
            for bits in (1, 8, 31, 32, 63):
                for number in NUMBERS:
                    self.assertEqual(below(key, number, 9, 2 ** bits), second_mill.mill(key, number, 9) % 2 ** bits)

    def test_other_ones(self):
        for n in (2, 3, 5, 10, 1000, LAST_WORD, 2 ** 32 + 1, 2 ** 63 - 1, 2 ** 63 + 1, 2 ** 64 - 2, LAST):
            for key in KEYS:
                for number in NUMBERS:
                    told = second_mill.below(key, number, 3, n)
                    self.assertEqual(below(key, number, 3, n), told)
                    self.assertLess(told, n)

    def test_tries_that_are_passed_over(self):
        # Above 2^63 nearly half of all numbers are passed over.
        n = 2 ** 63 + 1
        most_tries = 0
        for place in range(400):
            tries = second_mill.tries_of(KEYS[1], 5, place, n)
            most_tries = max(most_tries, len(tries))
            self.assertEqual(below(KEYS[1], 5, place, n), tries[-1] % n)
        self.assertGreater(most_tries, 5)

    def numbers_told(self, numbers, n):
        """What below answers where the mill tells these numbers, try by try, and how many it asked for."""
        keys = []

        def told(key, stream, place):
            keys.append((list(key), stream, place))
            return numbers[len(keys) - 1]

        with mock.patch.object(draws, "mill_number", told):
            answer = below([1, 2, 3, 0xF0F0F0F0], 8, 9, n)
        self.assertEqual(keys, [([1, 2, 3, 0xF0F0F0F0 ^ j], 8, 9) for j in range(len(keys))])
        return answer, len(keys)

    def test_the_first_that_is_at_least_what_is_left_over(self):
        # 2^64 modulo 10 is 6.
        self.assertEqual(self.numbers_told([6] + [0] * 63, 10), (6, 1))
        self.assertEqual(self.numbers_told([5, 17] + [0] * 62, 10), (7, 2))
        self.assertEqual(self.numbers_told([0, 5, 3, LAST] + [0] * 60, 10), (5, 4))
        # 2^64 modulo 8 is 0: none is passed over.
        self.assertEqual(self.numbers_told([0] * 64, 8), (0, 1))

    def test_the_last_try_counts_whatever_it_is(self):
        self.assertEqual(self.numbers_told([0] * 63 + [4], 10), (4, 64))
        self.assertEqual(self.numbers_told([1] * 62 + [23] + [4], 10), (3, 63))
        self.assertEqual(self.numbers_told(list(range(64)), 2 ** 63 + 1), (63, 64))
        self.assertEqual(self.numbers_told([1] * 63 + [29], 10), (9, 64))
