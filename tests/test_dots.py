"""Point 9: dots."""

import unittest

from tests.helper import ALL, EMPTY, FULL, INT_HIGH, INT_LOW, dots, lanes, last, padded

HELD = (1, -1, 2, 256, INT_LOW, INT_HIGH)
SIXTEEN = 2 ** 16 - 1


def signed_bytes(*numbers):
    return [number % 256 for number in numbers]


class DotsTest(unittest.TestCase):
    def check(self, k, held, base, a, b, expected):
        with self.subTest(k=k, held=held, base=base, a=a, b=b):
            self.assertEqual(last(dots(k, held, base, a, b)), expected)

    def check_lane(self, held, start, a, b, expected):
        """Lane 0 alone, then each other lane alone, then all of them."""
        base = lanes(4, [start])
        self.check(1, held, base, a, b, padded(lanes(4, [expected])))
        for j in (1, 7, 15):
            skipped = [0] * 4 * j
            self.check(1 << j, held, skipped + base, skipped + a, skipped + b, padded(skipped + lanes(4, [expected])))
        self.check(ALL, held, base * 16, a * 16, b * 16, lanes(4, [expected]) * 16)

    def check_both(self, start, a, b, expected):
        for held in (0,) + HELD:
            self.check_lane(held, start, a, b, expected)

    def test_the_sum_and_four_products(self):
        self.check_both(1000, [1, 2, 3, 4], signed_bytes(10, 20, 30, 40), 1000 + 10 + 40 + 90 + 160)
        self.check_both(0, [2, 0, 0, 0], signed_bytes(3, 9, 9, 9), 6)
        self.check_both(0, [0, 2, 0, 0], signed_bytes(9, 3, 9, 9), 6)
        self.check_both(0, [0, 0, 2, 0], signed_bytes(9, 9, 3, 9), 6)
        self.check_both(0, [0, 0, 0, 2], signed_bytes(9, 9, 9, 3), 6)

    def test_as_bytes(self):
        self.check(1, 0, [1, 1], [255], [127], padded([130, 127]))
        self.check(1, 0, [], [1], [255], padded([255, 255, 255, 255]))
        self.check(3, 0, [], [0, 0, 0, 0, 2], [0, 0, 0, 0, 128], padded([0, 0, 0, 0, 0, 255, 255, 255]))

    def test_bytes_of_a_have_no_sign(self):
        self.check_both(0, [255, 128, 127, 0], signed_bytes(1, 1, 1, 1), 510)
        self.check_both(0, [255, 255, 255, 255], signed_bytes(127, 127, 127, 127), 129540)

    def test_bytes_of_b_have_signs(self):
        self.check_both(0, [1, 1, 1, 1], [127, 0, 0, 0], 127)
        self.check_both(0, [1, 1, 1, 1], [128, 0, 0, 0], -128)
        self.check_both(0, [1, 1, 1, 1], [255, 255, 255, 255], -4)
        self.check_both(0, [255, 255, 255, 255], [128, 128, 128, 128], -130560)

    def test_products_of_both_signs(self):
        self.check_both(0, [200, 100, 3, 255], signed_bytes(-128, 127, -1, 5), -25600 + 12700 - 3 + 1275)
        self.check_both(7, [255, 255, 0, 0], signed_bytes(127, -127, -128, 5), 7)

    def test_sums_of_both_signs(self):
        self.check_both(-1, [1, 0, 0, 0], [1, 0, 0, 0], 0)
        self.check_both(-1000, [10, 0, 0, 0], signed_bytes(50, 0, 0, 0), -500)
        self.check_both(1000, [10, 0, 0, 1], signed_bytes(-128, 0, 0, -2), -282)
        self.check_both(INT_LOW, [1, 0, 0, 0], [1, 0, 0, 0], INT_LOW + 1)
        self.check_both(INT_HIGH, [1, 0, 0, 0], [255, 0, 0, 0], INT_HIGH - 1)
        self.check_both(INT_LOW, [255] * 4, [127] * 4, INT_LOW + 129540)
        self.check_both(INT_HIGH, [255] * 4, [128] * 4, INT_HIGH - 130560)

    def test_just_at_the_ends(self):
        self.check_both(INT_HIGH - 1, [1, 0, 0, 0], [1, 0, 0, 0], INT_HIGH)
        self.check_both(INT_LOW + 1, [1, 0, 0, 0], [255, 0, 0, 0], INT_LOW)
        self.check_both(INT_HIGH - 129540, [255] * 4, [127] * 4, INT_HIGH)
        self.check_both(INT_LOW + 130560, [255] * 4, [128] * 4, INT_LOW)
        self.check_both(INT_HIGH, [], [], INT_HIGH)
        self.check_both(INT_LOW, [], [], INT_LOW)

    def test_just_past_the_ends_held(self):
        for held in HELD:
            self.check_lane(held, INT_HIGH, [1, 0, 0, 0], [1, 0, 0, 0], INT_HIGH)
            self.check_lane(held, INT_LOW, [1, 0, 0, 0], [255, 0, 0, 0], INT_LOW)
            self.check_lane(held, INT_HIGH - 129539, [255] * 4, [127] * 4, INT_HIGH)
            self.check_lane(held, INT_LOW + 130559, [255] * 4, [128] * 4, INT_LOW)

    def test_just_past_the_ends_not_held(self):
        self.check_lane(0, INT_HIGH, [1, 0, 0, 0], [1, 0, 0, 0], INT_LOW)
        self.check_lane(0, INT_LOW, [1, 0, 0, 0], [255, 0, 0, 0], INT_HIGH)
        self.check_lane(0, INT_HIGH - 129539, [255] * 4, [127] * 4, INT_LOW)
        self.check_lane(0, INT_LOW + 130559, [255] * 4, [128] * 4, INT_HIGH)

    def test_far_past_the_ends(self):
        for held in HELD:
            self.check_lane(held, INT_HIGH, [255] * 4, [127] * 4, INT_HIGH)
            self.check_lane(held, INT_LOW, [255] * 4, [128] * 4, INT_LOW)
        self.check_lane(0, INT_HIGH, [255] * 4, [127] * 4, INT_LOW + 129539)
        self.check_lane(0, INT_LOW, [255] * 4, [128] * 4, INT_HIGH - 130559)

    def test_it_is_held_once_all_is_added(self):
        self.check_both(INT_HIGH, [255, 255, 0, 0], signed_bytes(127, -127, 0, 0), INT_HIGH)
        self.check_both(INT_HIGH, [255, 0, 0, 255], signed_bytes(127, 0, 0, -128), INT_HIGH - 255)
        self.check_both(INT_LOW, [255, 0, 255, 0], signed_bytes(-127, 0, 127, 0), INT_LOW)
        self.check_both(INT_LOW, [255, 0, 255, 255], signed_bytes(-128, 0, 127, 2), INT_LOW + 255)

    def test_each_lane_on_its_own(self):
        base = [INT_HIGH, INT_LOW, -1, 0] + list(range(-6, 6))
        a = [[1, 0, 0, 0], [0, 1, 0, 0], [0, 0, 1, 0], [0, 0, 0, 1]] + [[j, 0, 0, 255] for j in range(12)]
        b = [[1, 0, 0, 0], [0, 255, 0, 0], [0, 0, 1, 0], [0, 0, 0, 128]] + [[255, 7, 7, 1] for j in range(12)]
        # The sum grows by 1 from lane to lane, and so does what a's first byte takes off it.
        rest = [-6 + 255] * 12
        flat_a, flat_b = sum(a, []), sum(b, [])
        self.check(ALL, 1, lanes(4, base), flat_a, flat_b, lanes(4, [INT_HIGH, INT_LOW, 0, -128] + rest))
        self.check(ALL, 0, lanes(4, base), flat_a, flat_b, lanes(4, [INT_LOW, INT_HIGH, 0, -128] + rest))

    def test_lanes_not_in_k_are_the_sums(self):
        base = lanes(4, [INT_HIGH, INT_LOW, -1, 5] * 4)
        for held in (0, 1, -1):
            for j in (0, 1, 2, 3, 14, 15):
                changed = lanes(4, [[INT_HIGH - 4, INT_LOW if held else INT_HIGH - 3, -5, 1][j % 4]])
                self.check(1 << j, held, base, [1] * 64, FULL, base[:4 * j] + changed + base[4 * j + 4:])

    def test_k_of_0(self):
        base = list(range(64))
        for held in (0, 1, -1):
            self.check(0, held, base, FULL, [127] * 64, base)
            self.check(0, held, [], FULL, [127] * 64, EMPTY)

    def test_bits_of_k_above_the_lowest_16_are_no_matter(self):
        base = list(range(64))
        for held in (0, 1, -1):
            for k in (1 << 16, 1 << 17, 1 << 31, 1 << 32, 1 << 63, ALL - SIXTEEN):
                self.check(k, held, base, FULL, [127] * 64, base)
            one_lane = lanes(4, [0x03020100 + 129540]) + base[4:]
            self.check(1, held, base, FULL, [127] * 64, one_lane)
            self.check(ALL - SIXTEEN + 1, held, base, FULL, [127] * 64, one_lane)
            self.check(SIXTEEN, held, base, FULL, EMPTY, base)
            self.check(ALL, held, base, [1] * 64, [1] * 64, last(dots(SIXTEEN, held, base, [1] * 64, [1] * 64)))

    def test_bytes_of_0_left_out_at_the_end(self):
        for held in (0, 1, -1):
            self.check(ALL, held, [5], [3, 4], [2], padded([11]))
            self.check(ALL, held, [5, 0, 0, 0, 9], [3, 4], [2, 255, 1], padded([7, 0, 0, 0, 9]))
            self.check(ALL, held, padded([5]), padded([3, 4]), padded([2]), padded([11]))
            self.check(ALL, held, [0, 0, 0, 0, 1], [0, 0, 0, 0, 0, 9], [0, 0, 0, 0, 0, 1, 7], padded([0, 0, 0, 0, 10]))

    def test_empty_rows(self):
        base = list(range(64))
        for held in (0, 1, -1):
            self.check(ALL, held, base, [], FULL, base)
            self.check(ALL, held, base, FULL, [], base)
            self.check(ALL, held, [], FULL, FULL, lanes(4, [-1020] * 16))
            self.check(ALL, held, [], [], [], EMPTY)
