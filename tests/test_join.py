"""Point 11: join."""

import unittest

from tests.helper import ALL, INT_HIGH, INT_LOW, join, last

A = 0x0123456789ABCDEF
B = 0xFEDCBA9876543210


class JoinTest(unittest.TestCase):
    def check(self, a, b, n, expected):
        with self.subTest(a=a, b=b, n=n):
            self.assertEqual(last(join(a, b, n)), [expected])

    def test_written_out(self):
        self.check(0b0101, 0b11, 4, 0b110101)
        self.check(A, B, 8, 0xDCBA9876543210EF)
        self.check(A, B, 32, 0x7654321089ABCDEF)
        self.check(A, B, 60, 0x0123456789ABCDEF)
        self.check(A, B, 56, 0x1023456789ABCDEF)

    def test_n_of_0_is_b(self):
        self.check(A, B, 0, B)
        self.check(ALL, 0, 0, 0)
        self.check(ALL, ALL, 0, ALL)

    def test_n_of_64_is_a(self):
        self.check(A, B, 64, A)
        self.check(0, ALL, 64, 0)
        self.check(ALL, ALL, 64, ALL)

    def test_n_of_1(self):
        self.check(1, 0, 1, 1)
        self.check(2, 0, 1, 0)
        self.check(3, 5, 1, 11)
        self.check(0, 2 ** 63, 1, 0)
        self.check(0, 2 ** 62, 1, 2 ** 63)

    def test_n_of_63(self):
        self.check(ALL, 0, 63, 2 ** 63 - 1)
        self.check(0, 1, 63, 2 ** 63)
        self.check(0, 2, 63, 0)
        self.check(2 ** 63, 3, 63, 2 ** 63)

    def test_every_n(self):
        for n in range(65):
            self.check(ALL, 0, n, 2 ** n - 1)
            self.check(0, ALL, n, 2 ** 64 - 2 ** n)
            self.check(ALL, ALL, n, ALL)
            bits = [A >> place & 1 for place in range(n)] + [B >> place & 1 for place in range(64 - n)]
            self.check(A, B, n, sum(bit << place for place, bit in enumerate(bits)))

    def test_bits_of_a_above_its_low_n_are_left_out(self):
        self.check(0xFFF0, 0, 4, 0)
        self.check(0xFFF5, 0b1000, 4, 0x85)
        self.check(ALL - 1, 0, 1, 0)

    def test_bits_of_b_without_room_are_left_out(self):
        self.check(0, ALL, 60, 0xF000000000000000)
        self.check(0, 0xF0, 60, 0)
        self.check(0, 2 ** 32, 32, 0)
        self.check(0, 2 ** 31, 32, 2 ** 63)

    def test_another_n_is_0(self):
        for n in (-1, -2, -63, -64, 65, 66, 127, 128, 256, 65536, INT_LOW, INT_HIGH):
            self.check(A, B, n, 0)
            self.check(ALL, ALL, n, 0)
            self.check(0, 0, n, 0)

    def test_nothing_joined(self):
        for n in (0, 1, 63, 64):
            self.check(0, 0, n, 0)
