"""Point 10: tests."""

import unittest

from tests.helper import ALL, EMPTY, FULL, INT_HIGH, INT_LOW, last, row, tested

WIDTHS = (1, 2, 4, 8)
NONE = (1, -1, 2, 256, INT_LOW, INT_HIGH)


class TestsTest(unittest.TestCase):
    def check(self, w, a, b, expected):
        """The mask where there is some 1 in common, and the lanes that are left where there is none."""
        every = 2 ** (64 // w) - 1
        with self.subTest(w=w, a=a, b=b):
            self.assertEqual(last(tested(w, 0, a, b)), [expected])
            for none in NONE:
                self.assertEqual(last(tested(w, none, a, b)), [every - expected], none)

    def test_written_out(self):
        a = [1, 0, 6, 0, 0, 128, 0, 0, 0, 0, 0, 0, 0, 0, 0, 8]
        b = [3, 9, 9, 0, 0, 128, 0, 0, 255, 0, 0, 0, 0, 0, 0, 12]
        self.check(1, a, b, 0b1000000000100001)
        self.check(2, a, b, 0b10000101)
        self.check(4, a, b, 0b1011)
        self.check(8, a, b, 0b11)

    def test_each_bit_tells_of_its_lane(self):
        for w in WIDTHS:
            for question in (0, 7, 8, 15, 16, 31, 32, 63, 64, 255, 256, 448, 503, 504, 511):
                self.check(w, row(question), FULL, 1 << question // (8 * w))
                self.check(w, FULL, row(question), 1 << question // (8 * w))
                self.check(w, row(question), row(question), 1 << question // (8 * w))

    def test_a_1_that_is_not_in_common_does_not_count(self):
        for w in WIDTHS:
            self.check(w, [0b01010101] * 64, [0b10101010] * 64, 0)
            self.check(w, [255, 0] * 32, [0, 255] * 32, 0)
            self.check(w, [0] * 63 + [128], [0] * 63 + [127], 0)

    def test_in_one_lane_but_at_other_bits(self):
        self.check(8, [1, 0, 0, 0, 0, 0, 0, 2], [2, 1, 0, 0, 0, 0, 0, 1], 0)
        self.check(8, [1, 0, 0, 0, 0, 0, 0, 2], [2, 1, 0, 0, 0, 0, 0, 3], 1)

    def test_all_and_none(self):
        for w in WIDTHS:
            self.check(w, FULL, FULL, 2 ** (64 // w) - 1)
            self.check(w, EMPTY, FULL, 0)
            self.check(w, EMPTY, EMPTY, 0)

    def test_a_mask_of_64_bits(self):
        self.assertEqual(last(tested(1, 0, FULL, FULL)), [ALL])
        self.assertEqual(last(tested(1, 1, EMPTY, FULL)), [ALL])
        self.assertEqual(last(tested(1, 0, row(511), row(511))), [2 ** 63])
        self.assertEqual(last(tested(1, 1, row(511), row(511))), [2 ** 63 - 1])

    def test_another_w_is_0(self):
        for w in (0, 3, 5, 6, 7, 9, 12, 16, 32, 64, 128, -1, -2, -4, -8, 257, INT_LOW, INT_HIGH):
            for none in (0,) + NONE:
                with self.subTest(w=w, none=none):
                    self.assertEqual(last(tested(w, none, FULL, FULL)), [0])
                    self.assertEqual(last(tested(w, none, EMPTY, FULL)), [0])
                    self.assertEqual(last(tested(w, none, [], [])), [0])

    def test_bytes_of_0_left_out_at_the_end(self):
        for w in WIDTHS:
            self.check(w, [1], FULL, 1)
            self.check(w, FULL, [0] * 8 + [4], 1 << 8 // w)
            self.check(w, [1, 2], [1], 1)
            self.check(w, [1], [0, 0, 0, 0, 0, 0, 0, 0, 1], 0)
            self.check(w, [1] + [0] * 63, [1, 0, 0], 1)

    def test_empty_rows(self):
        for w in WIDTHS:
            self.check(w, [], FULL, 0)
            self.check(w, FULL, [], 0)
            self.check(w, [], [], 0)
