"""Point 5: one."""

import unittest

from ballotrows.tally import Tally
from tests.helper import ALL, BEGIN, FULL, INT_HIGH, INT_LOW, count, counts_after, last, one, row, run


class OneTest(unittest.TestCase):
    def test_the_count_of_the_question(self):
        told = run(BEGIN, count(ALL, row(0, 7)), count(ALL, row(7, 8)), count(ALL, row(7, 511)),
                   count(ALL, row(511)), one(0), one(7), one(8), one(511), one(1))
        self.assertEqual(told[5:], [[1], [3], [1], [2], [0]])

    def test_each_question_by_its_own_number(self):
        # Question i is counted as often as i % 11 tells, so that a neighbour's count is another one.
        calls = [count(ALL, row(*[i for i in range(512) if i % 11 > turn])) for turn in range(10)]
        self.assertEqual(counts_after(*calls), [i % 11 for i in range(512)])

    def test_minus_1_for_a_number_that_is_no_question(self):
        for question in (-1, -2, -511, -512, -513, 512, 513, 1023, 65536, INT_LOW, INT_HIGH):
            with self.subTest(question=question):
                self.assertEqual(last(count(ALL, FULL), one(question)), [-1])

    def test_asking_changes_no_count(self):
        told = run(BEGIN, count(ALL, row(7)), one(7), one(-1), one(512), one(7))
        self.assertEqual(told[2:], [[1], [-1], [-1], [1]])

    def test_a_count_of_65535(self):
        tally = Tally()
        tally.counts[511] = 65535
        self.assertEqual(tally.one(511), 65535)
        self.assertEqual(tally.one(-1), -1)
