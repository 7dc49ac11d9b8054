"""Point 8: fields."""

import unittest

from tests.helper import ALL, EMPTY, FULL, fields, lanes, last, padded

WORDS = [0x0123456789ABCDEF, 0xFEDCBA9876543210, 0x8000000000000001, 0x00FF00FF00FF00FF,
         0xDEADBEEFCAFEF00D, 0x1122334455667788, 0x7FFFFFFFFFFFFFFE, 0x0F1E2D3C4B5A6978]
X = lanes(8, WORDS)


def field(word, s):
    """Bit by bit, so that going round is told by the modulo alone."""
    return sum((word >> (s + bit) % 64 & 1) << bit for bit in range(8))


class FieldsTest(unittest.TestCase):
    def check(self, k, x, at, expected):
        with self.subTest(k=k, at=at):
            self.assertEqual(last(fields(k, x, at)), expected)

    def test_written_out(self):
        x = lanes(8, [0x0123456789ABCDEF])
        self.check(255, x, [0, 4, 8, 12, 56, 60, 32, 1], padded([0xEF, 0xDE, 0xCD, 0xBC, 0x01, 0xF0, 0x67, 0xF7]))

    def test_from_bit_0_on(self):
        self.check(ALL, X, EMPTY, [byte for word in WORDS for byte in [word & 255] * 8])

    def test_each_byte_at_its_own_place_is_the_row_again(self):
        self.check(ALL, X, [0, 8, 16, 24, 32, 40, 48, 56] * 8, X)

    def test_past_bit_63_it_goes_on_with_bit_0(self):
        word = lanes(8, [0x8000000000000000 + 0b0101101])
        expected = {
            56: 0b10000000, 57: 0b11000000, 58: 0b01100000, 59: 0b10110000,
            60: 0b11011000, 61: 0b01101100, 62: 0b10110110, 63: 0b01011011,
        }
        for s in expected:
            self.check(1, word, [s], padded([expected[s]]))
        self.check(255, word, list(expected), padded(list(expected.values())))

    def test_from_every_bit_on(self):
        for s in range(64):
            self.check(ALL, X, [s] * 64, [field(word, s) for word in WORDS for place in range(8)])

    def test_a_byte_of_at_that_is_64_or_more(self):
        for s in (64, 65, 71, 121, 127, 128, 135, 191, 192, 249, 254, 255):
            self.check(ALL, X, [s] * 64, [field(word, s % 64) for word in WORDS for place in range(8)])

    def test_each_byte_by_its_own_byte_of_at(self):
        at = [(place * 37 + 11) % 256 for place in range(64)]
        self.check(ALL, X, at, [field(WORDS[place // 8], at[place] % 64) for place in range(64)])

    def test_the_word_of_another_lane_is_not_touched(self):
        # Going on from a word's last bit must not come into the next word, nor into the one before.
        for j in range(8):
            full = EMPTY[:8 * j] + [255] * 8 + EMPTY[8 * j + 8:]
            for s in (0, 1, 7, 56, 57, 60, 63):
                self.check(ALL, full, [s] * 64, full)
                without = [255 - byte for byte in full]
                self.check(ALL, without, [s] * 64, without)

    def test_bytes_not_in_k_are_0(self):
        for j in (0, 1, 7, 8, 31, 62, 63):
            self.check(1 << j, FULL, [3] * 64, EMPTY[:j] + [255] + EMPTY[j + 1:])
            self.check(ALL - (1 << j), FULL, [60] * 64, FULL[:j] + [0] + FULL[j + 1:])

    def test_k_of_0(self):
        self.check(0, X, [5] * 64, EMPTY)
        self.check(0, FULL, [], EMPTY)

    def test_k_of_all_bytes(self):
        self.check(ALL, FULL, FULL, FULL)

    def test_bytes_of_0_left_out_at_the_end(self):
        self.check(ALL, [1, 2, 3], [8, 16, 63], padded([2, 3, 2, 1, 1, 1, 1, 1]))
        self.check(ALL, lanes(8, WORDS[:2]) + [9], [8],
                   padded([0xCD] + [0xEF] * 7 + [0x10] * 8 + [9] * 8))

    def test_bytes_of_0_not_left_out_answer_alike(self):
        self.check(ALL, padded([1, 2, 3]), padded([8, 16, 63]), padded([2, 3, 2, 1, 1, 1, 1, 1]))

    def test_empty_rows(self):
        self.check(ALL, [], FULL, EMPTY)
        self.check(ALL, [], [], EMPTY)
        self.check(ALL, FULL, [], FULL)
        self.check(ALL, X, [], [byte for word in WORDS for byte in [word & 255] * 8])
