"""Point 2: count."""

import unittest

from ballotrows.tally import Tally
from tests.helper import ALL, BEGIN, EMPTY, FULL, count, counts_after, last, least, one, row, run


def ones_at(questions):
    return [1 if question in questions else 0 for question in range(512)]


class CountTest(unittest.TestCase):
    def test_it_answers_0(self):
        self.assertEqual(last(count(ALL, row(0, 9))), [0])

    def test_marked_questions_have_one_more(self):
        self.assertEqual(counts_after(count(ALL, row(0, 7, 8, 300, 511))), ones_at([0, 7, 8, 300, 511]))

    def test_each_bit_of_a_byte_is_its_own_question(self):
        for question in list(range(16)) + list(range(496, 512)):
            with self.subTest(question=question):
                self.assertEqual(last(count(ALL, row(question)), least(1)), row(question))

    def test_counts_grow_one_by_one(self):
        calls = [count(ALL, row(5, 6))] * 3 + [count(ALL, row(6, 77))] * 2
        told = run(BEGIN, *calls, one(5), one(6), one(77), one(7))
        self.assertEqual(told[-4:], [[3], [5], [2], [0]])

    def test_as_often_as_a_list_of_calls_allows(self):
        told = run(BEGIN, *[count(ALL, FULL)] * 58, one(511))
        self.assertEqual(told, [[0]] * 59 + [[58]])

    def test_bits_in_bytes_not_in_k_are_not_counted(self):
        self.assertEqual(counts_after(count(0b101, row(0, 7, 8, 15, 16, 24, 511))), ones_at([0, 7, 16]))

    def test_k_tells_of_bytes_the_lowest_bit_of_byte_0(self):
        for byte in (0, 1, 7, 8, 31, 32, 62, 63):
            with self.subTest(byte=byte):
                expected = row(*range(8 * byte, 8 * byte + 8))
                self.assertEqual(last(count(1 << byte, FULL), least(1)), expected)

    def test_k_of_0_counts_nothing(self):
        self.assertEqual(run(BEGIN, count(0, FULL), least(1)), [[0], [0], EMPTY])

    def test_k_of_all_bytes_counts_all(self):
        self.assertEqual(run(BEGIN, count(ALL, FULL), least(1), least(2)), [[0], [0], FULL, EMPTY])

    def test_bytes_of_0_left_out_at_the_end(self):
        told = run(BEGIN, count(ALL, [1, 0, 128]), one(0), one(23), least(1))
        self.assertEqual(told, [[0], [0], [1], [1], row(0, 23)])

    def test_bytes_of_0_not_left_out_at_the_end(self):
        for size in (1, 2, 63, 64):
            with self.subTest(size=size):
                self.assertEqual(last(count(ALL, ([4] + EMPTY)[:size]), least(1)), row(2))

    def test_an_empty_ballot_counts_nothing(self):
        self.assertEqual(run(BEGIN, count(ALL, []), least(1)), [[0], [0], EMPTY])

    def test_a_ballot_like_calls_is_not_read_as_calls(self):
        self.assertEqual(run(BEGIN, count(ALL, [0, 5, 6, 3]), one(8)), [[0], [0], [1]])


class CountAtTheTopTest(unittest.TestCase):
    """No list of 60 calls brings a count to 65535, so the tally itself is put there."""

    def setUp(self):
        self.tally = Tally()

    def check_refused(self, k, ballot):
        before = list(self.tally.counts)
        self.assertEqual(self.tally.count(k, ballot), 2)
        self.assertEqual(self.tally.counts, before)

    def test_65534_may_become_65535(self):
        self.tally.counts[8] = 65534
        self.assertEqual(self.tally.count(ALL, row(8)), 0)
        self.assertEqual(self.tally.one(8), 65535)
        self.check_refused(ALL, row(8))

    def test_a_refusal_changes_nothing_in_part_neither(self):
        for full in (0, 7, 8, 255, 511):
            with self.subTest(full=full):
                self.tally = Tally()
                self.tally.counts[full] = 65535
                self.check_refused(ALL, FULL)
                self.check_refused(1 << full // 8, row(0, full, 511))

    def test_a_full_count_that_is_not_marked_is_no_matter(self):
        self.tally.counts[8] = 65535
        self.assertEqual(self.tally.count(ALL, row(7, 9)), 0)
        self.assertEqual([self.tally.one(question) for question in (7, 8, 9)], [1, 65535, 1])

    def test_a_full_count_in_a_byte_not_in_k_is_no_matter(self):
        self.tally.counts[8] = 65535
        self.assertEqual(self.tally.count(ALL - 2, FULL), 0)
        self.assertEqual([self.tally.one(question) for question in (7, 8, 9, 16)], [1, 65535, 0, 1])

    def test_k_of_0_and_an_empty_ballot_are_never_refused(self):
        self.tally.counts = [65535] * 512
        self.assertEqual(self.tally.count(0, FULL), 0)
        self.assertEqual(self.tally.count(ALL, EMPTY), 0)
        self.assertEqual(self.tally.counts, [65535] * 512)

    def test_a_begin_makes_room_again(self):
        self.tally.counts[8] = 65535
        self.assertEqual(self.tally.begin(), 0)
        self.assertEqual(self.tally.count(ALL, row(8)), 0)
        self.assertEqual(self.tally.one(8), 1)
