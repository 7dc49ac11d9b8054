"""Point 4: least, between, odd."""

import unittest

from ballotrows.tally import Tally
from tests.helper import (
    ALL, BEGIN, EMPTY, FULL, INT_HIGH, INT_LOW, ODD, between, count, last, least, row, run, uncount,
)

# Question 0 has 1, 7 has 2, 8 has 3, 511 has 4, all others have 0.
COUNTED = [count(ALL, row(0, 7, 8, 511)), count(ALL, row(7, 8, 511)), count(ALL, row(8, 511)), count(ALL, row(511))]


def tally_with(counts):
    tally = Tally()
    for question in counts:
        tally.counts[question] = counts[question]
    return tally


class LeastTest(unittest.TestCase):
    def check(self, t, expected):
        with self.subTest(t=t):
            self.assertEqual(last(*COUNTED, least(t)), expected)

    def test_at_least_so_many(self):
        self.check(1, row(0, 7, 8, 511))
        self.check(2, row(7, 8, 511))
        self.check(3, row(8, 511))
        self.check(4, row(511))
        self.check(5, EMPTY)

    def test_all_have_at_least_0(self):
        for t in (0, -1, -65536, INT_LOW):
            self.check(t, FULL)

    def test_none_has_so_many(self):
        for t in (65535, 65536, 65537, INT_HIGH):
            self.check(t, EMPTY)

    def test_a_count_of_65535(self):
        tally = tally_with({8: 65535, 9: 65534})
        self.assertEqual(tally.least(65534), row(8, 9))
        self.assertEqual(tally.least(65535), row(8))
        self.assertEqual(tally.least(65536), EMPTY)
        self.assertEqual(tally.least(INT_HIGH), EMPTY)


class BetweenTest(unittest.TestCase):
    def check(self, lo, hi, expected):
        with self.subTest(lo=lo, hi=hi):
            self.assertEqual(last(*COUNTED, between(lo, hi)), expected)

    def test_both_ends_are_in(self):
        self.check(1, 4, row(0, 7, 8, 511))
        self.check(2, 3, row(7, 8))
        self.check(3, 65535, row(8, 511))
        self.check(1, 2, row(0, 7))

    def test_one_number(self):
        self.check(1, 1, row(0))
        self.check(4, 4, row(511))
        self.check(5, 5, EMPTY)
        self.check(0, 0, row(*[question for question in range(512) if question not in (0, 7, 8, 511)]))

    def test_none_if_lo_is_above_hi(self):
        for lo, hi in ((2, 1), (3, 1), (4, 0), (1, -1), (0, -1), (65535, 0), (INT_HIGH, INT_LOW)):
            self.check(lo, hi, EMPTY)

    def test_ends_past_what_a_count_can_be(self):
        self.check(INT_LOW, INT_HIGH, FULL)
        self.check(-1, 65536, FULL)
        self.check(0, 65535, FULL)
        self.check(4, INT_HIGH, row(511))
        self.check(INT_LOW, -1, EMPTY)
        self.check(INT_LOW, INT_LOW, EMPTY)
        self.check(65536, INT_HIGH, EMPTY)
        self.check(INT_HIGH, INT_HIGH, EMPTY)

    def test_a_count_of_65535(self):
        tally = tally_with({8: 65535, 9: 65534})
        self.assertEqual(tally.between(65534, 65535), row(8, 9))
        self.assertEqual(tally.between(65535, 65536), row(8))
        self.assertEqual(tally.between(1, 65534), row(9))
        self.assertEqual(tally.between(65536, INT_HIGH), EMPTY)


class OddTest(unittest.TestCase):
    def test_where_the_count_is_odd(self):
        self.assertEqual(last(*COUNTED, ODD), row(0, 8))

    def test_0_is_not_odd(self):
        self.assertEqual(last(ODD), EMPTY)

    def test_each_ballot_turns_it(self):
        told = run(BEGIN, count(ALL, FULL), ODD, count(ALL, FULL), ODD, uncount(ALL, row(9)), ODD)
        self.assertEqual(told[2::2], [FULL, EMPTY, row(9)])

    def test_a_count_of_65535(self):
        self.assertEqual(tally_with({8: 65535, 9: 65534, 511: 32767, 0: 32768}).odd(), row(8, 511))


class AskingTest(unittest.TestCase):
    def test_all_64_bytes_are_answered(self):
        for call in (least(1), least(0), between(1, 1), between(2, 1), ODD):
            with self.subTest(call=call):
                self.assertEqual(len(last(call)), 64)
                self.assertEqual(len(last(*COUNTED, call)), 64)

    def test_asking_changes_no_count(self):
        told = run(BEGIN, *COUNTED, least(2), between(2, 3), ODD, least(2), between(2, 3), ODD)
        self.assertEqual(told[5:8], told[8:])
        self.assertEqual(told[5:8], [row(7, 8, 511), row(7, 8), row(0, 8)])
