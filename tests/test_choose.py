"""Point 6: choose."""

import unittest

from tests.helper import EMPTY, FULL, INT_HIGH, INT_LOW, choose, last, padded, row

# Bit i of these three bytes stands as the bits of i do: all eight ways in one byte.
A, B, C = 0b11110000, 0b11001100, 0b10101010

CHOSEN = {
    0: 0b11101000,  # majority: 3, 5, 6, 7
    1: 0b11001010,  # b's where a's is 1, else c's: 1, 3, 6, 7
    2: 0b10010110,  # an odd number: 1, 2, 4, 7
    3: 0b00010110,  # just one: 1, 2, 4
    4: 0b10000001,  # all the same: 0, 7
}


def turned(byte, by):
    """The byte with its bits moved up, those at the top coming in below."""
    return (byte << by | byte >> (8 - by)) & 255


def turned_row(byte):
    return [turned(byte, place * 3 % 8) for place in range(64)]


class ChooseTest(unittest.TestCase):
    def check(self, how, a, b, c, expected):
        with self.subTest(how=how, a=a, b=b, c=c):
            self.assertEqual(last(choose(how, a, b, c)), expected)

    def test_all_eight_ways_of_three_bits(self):
        for how, byte in CHOSEN.items():
            self.check(how, [A] * 64, [B] * 64, [C] * 64, [byte] * 64)

    def test_each_bit_by_those_at_its_place(self):
        for how, byte in CHOSEN.items():
            self.check(how, turned_row(A), turned_row(B), turned_row(C), turned_row(byte))

    def test_one_bit_at_a_time(self):
        for question in (0, 7, 8, 255, 504, 511):
            bit = row(question)
            without = [255 - byte for byte in bit]
            self.check(0, bit, FULL, EMPTY, bit)
            self.check(1, bit, FULL, EMPTY, bit)
            self.check(1, bit, EMPTY, FULL, without)
            self.check(2, bit, FULL, EMPTY, without)
            self.check(3, EMPTY, bit, EMPTY, bit)
            self.check(4, EMPTY, EMPTY, bit, without)

    def test_another_how_is_0_everywhere(self):
        for how in (-1, -2, -4, 5, 6, 7, 8, 255, 256, 65536, INT_LOW, INT_HIGH):
            self.check(how, [A] * 64, [B] * 64, [C] * 64, EMPTY)
            self.check(how, FULL, FULL, FULL, EMPTY)
            self.check(how, [], [], [], EMPTY)

    def test_bytes_of_0_left_out_at_the_end(self):
        self.check(0, [3, 3, 3], [5, 5], [6], padded([7, 1]))
        self.check(1, [15, 15], [1], [255, 255, 255], padded([241, 240, 255]))
        self.check(2, [1], [2, 4], [8, 16, 32], padded([11, 20, 32]))
        self.check(3, [3], [3, 4], [9, 4, 32], padded([8, 0, 32]))
        self.check(4, [1], [3, 255], [], [252, 0] + [255] * 62)

    def test_bytes_of_0_not_left_out_answer_alike(self):
        a, b, c = [9, 200, 31], [77], [180, 1, 2, 3, 4]
        for how in CHOSEN:
            self.check(how, padded(a), padded(b), padded(c), last(choose(how, a, b, c)))

    def test_empty_rows(self):
        for how in (0, 1, 2, 3):
            self.check(how, [], [], [], EMPTY)
        self.check(4, [], [], [], FULL)

    def test_one_row_that_is_not_empty(self):
        self.check(0, FULL, [], [], EMPTY)
        self.check(1, FULL, [], [], EMPTY)
        self.check(1, [], FULL, [], EMPTY)
        self.check(1, [], [], FULL, FULL)
        self.check(2, [], FULL, [], FULL)
        self.check(3, [], [], FULL, FULL)
        self.check(4, [], FULL, [], EMPTY)

    def test_all_full(self):
        for how, expected in ((0, FULL), (1, FULL), (2, FULL), (3, EMPTY), (4, FULL)):
            self.check(how, FULL, FULL, FULL, expected)
