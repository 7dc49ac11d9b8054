"""Point 7: pick."""

import unittest

from tests.helper import ALL, EMPTY, FULL, INT_HIGH, INT_LOW, lanes, last, padded, pick

# No byte stands twice in a and b together, so that what was picked tells where from.
A = list(range(1, 65))
B = list(range(101, 165))
WIDTHS = (1, 2, 4, 8)


def lane(given, w, number):
    return given[w * number:w * number + w]


class PickTest(unittest.TestCase):
    def check(self, k, w, places, a, b, expected):
        with self.subTest(k=k, w=w, places=places):
            self.assertEqual(last(pick(k, w, places, a, b)), expected)

    def test_written_out(self):
        self.check(ALL, 1, [2, 0, 64, 127] + [63] * 60, A, B, [3, 1, 101, 164] + [64] * 60)
        self.check(ALL, 8, lanes(8, [0, 7, 8, 15, 1, 9, 14, 6]), A, B,
                   A[0:8] + A[56:64] + B[0:8] + B[56:64] + A[8:16] + B[8:16] + B[48:56] + A[48:56])

    def test_lanes_of_a(self):
        for w in WIDTHS:
            n = 64 // w
            self.check(ALL, w, lanes(w, list(range(n))), A, B, A)
            self.check(ALL, w, lanes(w, [n - 1] * n), A, B, lane(A, w, n - 1) * n)

    def test_lanes_of_b(self):
        for w in WIDTHS:
            n = 64 // w
            self.check(ALL, w, lanes(w, list(range(n, 2 * n))), A, B, B)
            self.check(ALL, w, lanes(w, [n] * n), A, B, B[:w] * n)

    def test_lanes_back_to_front(self):
        for w in WIDTHS:
            n = 64 // w
            backward = [byte for number in reversed(range(n)) for byte in lane(A, w, number)]
            self.check(ALL, w, lanes(w, list(reversed(range(n)))), A, B, backward)

    def test_a_place_past_2_n_is_modulo_2_n(self):
        for w in WIDTHS:
            n = 64 // w
            self.check(ALL, w, lanes(w, [2 * n] * n), A, B, A[:w] * n)
            self.check(ALL, w, lanes(w, [2 * n + 1] * n), A, B, lane(A, w, 1) * n)
            self.check(ALL, w, lanes(w, [3 * n] * n), A, B, B[:w] * n)
            self.check(ALL, w, lanes(w, [256 ** w - 1] * n), A, B, lane(B, w, n - 1) * n)
            self.check(ALL, w, lanes(w, [256 ** w - 2 * n] * n), A, B, A[:w] * n)

    def test_a_place_has_its_lowest_byte_first(self):
        for w in (2, 4, 8):
            n = 64 // w
            self.check(ALL, w, ([3] + [0] * (w - 1)) * n, A, B, lane(A, w, 3) * n)
            self.check(ALL, w, ([0] * (w - 1) + [3]) * n, A, B, A[:w] * n)
            self.check(ALL, w, ([n + 2] + [255] * (w - 1)) * n, A, B, lane(B, w, 2) * n)

    def test_lanes_not_in_k_are_0(self):
        for w in WIDTHS:
            n = 64 // w
            for j in (0, 1, n // 2, n - 1):
                expected = [0] * (w * j) + lane(B, w, j) + [0] * (64 - w * j - w)
                self.check(1 << j, w, lanes(w, list(range(n, 2 * n))), A, B, expected)
                others = B[:w * j] + [0] * w + B[w * j + w:]
                self.check(ALL - (1 << j), w, lanes(w, list(range(n, 2 * n))), A, B, others)

    def test_k_of_0(self):
        for w in WIDTHS:
            self.check(0, w, [], FULL, FULL, EMPTY)

    def test_bits_of_k_above_the_lanes_are_no_matter(self):
        for w in (2, 4, 8):
            n = 64 // w
            above = ALL - (2 ** n - 1)
            self.check(above, w, [], FULL, FULL, EMPTY)
            self.check(1 << n, w, [], FULL, FULL, EMPTY)
            self.check(above + 1, w, [], A, B, padded(A[:w]))
            self.check(2 ** n - 1, w, lanes(w, list(range(n))), A, B, A)

    def test_another_w_is_0_everywhere(self):
        for w in (0, 3, 5, 6, 7, 9, 12, 16, 32, 64, 128, -1, -2, -4, -8, 257, INT_LOW, INT_HIGH):
            self.check(ALL, w, [], FULL, FULL, EMPTY)
            self.check(ALL, w, FULL, FULL, FULL, EMPTY)
            self.check(0, w, [], [], [], EMPTY)

    def test_bytes_of_0_left_out_at_the_end(self):
        self.check(ALL, 1, [1, 65], [7, 8, 9], [5, 6], [8, 6] + [7] * 62)
        self.check(ALL, 2, [1, 0, 32], [7, 8, 9], [5], [9, 0, 5, 0] + [7, 8] * 30)
        self.check(ALL, 4, [17], [7], [5, 6, 7, 8, 9], [9, 0, 0, 0] + [7, 0, 0, 0] * 15)
        self.check(ALL, 8, [0, 0, 0, 0, 0, 0, 0, 0, 8], [7, 3], [5], padded([7, 3, 0, 0, 0, 0, 0, 0, 5])[:16]
                   + [7, 3, 0, 0, 0, 0, 0, 0] * 6)

    def test_empty_rows(self):
        for w in WIDTHS:
            n = 64 // w
            self.check(ALL, w, [], A, B, A[:w] * n)
            self.check(ALL, w, lanes(w, [n + 1] * n), A, [], EMPTY)
            self.check(ALL, w, lanes(w, [n + 1] * n), [], B, lane(B, w, 1) * n)
            self.check(ALL, w, [], [], [], EMPTY)
