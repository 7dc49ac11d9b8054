"""Point 3: uncount."""

import unittest

from ballotrows.tally import Tally
from tests.helper import ALL, BEGIN, EMPTY, FULL, count, counts_after, last, least, one, row, run, uncount


class UncountTest(unittest.TestCase):
    def test_it_answers_0(self):
        self.assertEqual(last(count(ALL, row(4)), uncount(ALL, row(4))), [0])

    def test_marked_questions_have_one_less(self):
        counts = counts_after(count(ALL, FULL), count(ALL, FULL), uncount(ALL, row(0, 7, 8, 511)))
        self.assertEqual(counts, [1 if question in (0, 7, 8, 511) else 2 for question in range(512)])

    def test_what_is_counted_can_all_be_taken_back(self):
        calls = [count(ALL, row(1, 99))] * 29 + [uncount(ALL, row(99))] * 29
        self.assertEqual(run(BEGIN, *calls, least(1)), [[0]] * 59 + [row(1)])

    def test_bits_in_bytes_not_in_k_are_not_taken_back(self):
        told = run(BEGIN, count(ALL, FULL), uncount(0b10, FULL), least(1))
        self.assertEqual(told[2:], [[0], row(*range(8), *range(16, 512))])

    def test_k_of_0_takes_nothing_back(self):
        self.assertEqual(run(BEGIN, uncount(0, FULL), least(1)), [[0], [0], EMPTY])
        self.assertEqual(run(BEGIN, count(ALL, FULL), uncount(0, FULL), least(1))[2:], [[0], FULL])

    def test_k_of_all_bytes_takes_all_back(self):
        self.assertEqual(run(BEGIN, count(ALL, FULL), uncount(ALL, FULL), least(1))[2:], [[0], EMPTY])

    def test_bytes_of_0_left_out_at_the_end(self):
        told = run(BEGIN, count(ALL, FULL), uncount(ALL, [1, 0, 128]), one(0), one(23), one(24))
        self.assertEqual(told[2:], [[0], [0], [0], [1]])

    def test_an_empty_ballot_takes_nothing_back(self):
        self.assertEqual(run(BEGIN, uncount(ALL, []), least(1)), [[0], [0], EMPTY])

    def test_from_65535(self):
        tally = Tally()
        tally.counts[8] = 65535
        self.assertEqual(tally.uncount(ALL, row(8)), 0)
        self.assertEqual(tally.one(8), 65534)


class UncountAtTheBottomTest(unittest.TestCase):
    def test_a_count_of_0_is_refused(self):
        self.assertEqual(run(BEGIN, uncount(ALL, row(0)), one(0)), [[0], [2], [0]])
        self.assertEqual(run(BEGIN, uncount(ALL, row(511)), one(511)), [[0], [2], [0]])

    def test_a_refusal_changes_nothing_in_part_neither(self):
        for empty in (0, 7, 8, 255, 511):
            with self.subTest(empty=empty):
                marked = [question for question in range(512) if question != empty]
                told = run(BEGIN, count(ALL, row(*marked)), uncount(ALL, FULL), least(1), least(2))
                self.assertEqual(told[2:], [[2], row(*marked), EMPTY])

    def test_all_counts_are_as_they_were(self):
        counts = counts_after(count(ALL, row(3, 4, 500)), count(ALL, row(4)), uncount(ALL, row(3, 4, 5, 500)))
        self.assertEqual(counts, [{3: 1, 4: 2, 500: 1}.get(question, 0) for question in range(512)])

    def test_it_goes_on_behind_a_refusal(self):
        told = run(BEGIN, uncount(ALL, row(3)), count(ALL, row(3)), uncount(ALL, row(3)), uncount(ALL, row(3)), one(3))
        self.assertEqual(told, [[0], [2], [0], [0], [2], [0]])

    def test_a_count_of_0_in_a_byte_not_in_k_is_no_matter(self):
        told = run(BEGIN, count(ALL, row(3)), uncount(1, row(3, 8, 511)), one(3), one(8), one(511))
        self.assertEqual(told[2:], [[0], [0], [0], [0]])

    def test_a_count_of_0_that_is_not_marked_is_no_matter(self):
        self.assertEqual(run(BEGIN, count(ALL, row(3)), uncount(ALL, row(3)), one(2))[2:], [[0], [0]])
