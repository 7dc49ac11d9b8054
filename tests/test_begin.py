"""Point 1: begin."""

import unittest

from tests.helper import ALL, BEGIN, EMPTY, FULL, ODD, count, counts_after, least, one, row, run, uncount


class BeginTest(unittest.TestCase):
    def test_it_answers_0(self):
        self.assertEqual(run(BEGIN), [[0]])

    def test_every_count_is_0(self):
        self.assertEqual(counts_after(), [0] * 512)
        self.assertEqual(run(BEGIN, least(1), ODD), [[0], EMPTY, EMPTY])

    def test_one_that_comes_again_sets_every_count_to_0(self):
        self.assertEqual(counts_after(count(ALL, FULL), count(ALL, FULL), BEGIN), [0] * 512)

    def test_one_that_comes_again_answers_0(self):
        self.assertEqual(run(BEGIN, BEGIN, count(ALL, FULL), BEGIN), [[0], [0], [0], [0]])

    def test_behind_one_that_comes_again_it_is_counted_from_0(self):
        told = run(BEGIN, count(ALL, row(3)), BEGIN, uncount(ALL, row(3)), count(ALL, row(3)), one(3))
        self.assertEqual(told, [[0], [0], [0], [2], [0], [1]])
