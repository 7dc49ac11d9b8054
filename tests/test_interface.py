"""The interface: how the list is laid out, what is given back, and what is left alone."""

import builtins
import contextlib
import io
import unittest
from unittest import mock

from ballotrows.tally import answers
from tests.helper import (
    ALL, BEGIN, EMPTY, FULL, ODD, apart, between, count, joined, least, one, row, uncount,
)

ORDINARY = joined([
    BEGIN, count(ALL, FULL), count(5, [255, 255, 3]), uncount(ALL, row(0, 511)), uncount(ALL, row(0)),
    uncount(ALL, row(0, 1)), least(1), between(2, 2), ODD, one(1), one(512), BEGIN, count(ALL, []), one(1), least(0),
])


class Unchangeable(list):
    """A list that tells of a change at once, so that one that is undone later is seen too."""

    def refuse(self, *given, **named):
        raise AssertionError("the list that was handed in was changed")

    __setitem__ = __delitem__ = __iadd__ = __imul__ = refuse
    append = extend = insert = pop = remove = clear = sort = reverse = refuse


class LaidOutTest(unittest.TestCase):
    def test_a_number_has_1_ahead_of_it(self):
        self.assertEqual(answers([0]), [1, 0])
        self.assertEqual(answers([0, 6, 0]), [1, 0, 1, 0])
        self.assertEqual(answers([0, 6, -1]), [1, 0, 1, -1])
        self.assertEqual(answers([0, 1, ALL, 1, 2, 6, 1]), [1, 0, 1, 0, 1, 1])

    def test_a_refusal_has_1_ahead_of_it_and_nothing_behind(self):
        self.assertEqual(answers([0, 2, ALL, 1, 2]), [1, 0, 1, 2])

    def test_a_row_has_64_ahead_of_it_and_all_its_bytes(self):
        self.assertEqual(answers([0, 3, 1]), [1, 0, 64] + EMPTY)
        self.assertEqual(answers([0, 3, 0]), [1, 0, 64] + FULL)
        self.assertEqual(answers([0, 4, 0, 0]), [1, 0, 64] + FULL)
        self.assertEqual(answers([0, 4, 1, 0]), [1, 0, 64] + EMPTY)
        self.assertEqual(answers([0, 5]), [1, 0, 64] + EMPTY)
        self.assertEqual(answers([0, 1, ALL, 2, 0, 9, 5]), [1, 0, 1, 0, 64, 0, 9] + [0] * 62)

    def test_each_call_is_answered_in_order(self):
        sizes = [len(part) for part in apart(answers(ORDINARY))]
        self.assertEqual(sizes, [1, 1, 1, 1, 1, 1, 64, 64, 64, 1, 1, 1, 1, 1, 64])

    def test_60_calls_with_whole_ballots(self):
        calls = joined([BEGIN] + [count(ALL, FULL)] * 30 + [uncount(ALL, FULL)] * 29)
        self.assertEqual(answers(calls), [1, 0] * 60)

    def test_60_calls_that_answer_rows(self):
        self.assertEqual(answers(joined([BEGIN] + [least(0)] * 59)), [1, 0] + ([64] + FULL) * 59)

    def test_a_list_of_whole_numbers_is_given_back(self):
        told = answers(ORDINARY)
        self.assertIs(type(told), list)
        self.assertEqual({type(number) for number in told}, {int})

    def test_a_number_that_is_no_call_is_not_taken_for_one(self):
        for number in (-1, 13):
            with self.subTest(number=number), self.assertRaises(KeyError):
                answers([0, number, 0, 0, 0, 0, 0])


class LeftAloneTest(unittest.TestCase):
    def test_the_list_is_as_it_was(self):
        handed = list(ORDINARY)
        answers(handed)
        self.assertEqual(handed, ORDINARY)

    def test_the_list_is_not_changed_for_a_while_either(self):
        self.assertEqual(answers(Unchangeable(ORDINARY)), answers(list(ORDINARY)))

    def test_a_second_time_answers_as_the_first(self):
        handed = list(ORDINARY)
        first = answers(handed)
        self.assertEqual(answers(handed), first)
        self.assertEqual(answers(list(ORDINARY)), first)

    def test_nothing_is_kept_from_other_calls(self):
        answers(joined([BEGIN, count(ALL, FULL)]))
        self.assertEqual(answers(joined([BEGIN, least(1)])), [1, 0, 64] + EMPTY)

    def test_every_time_the_tally_is_new(self):
        # A begin is always first; without one a tally kept from before would show.
        answers(joined([BEGIN, count(ALL, FULL)]))
        self.assertEqual(answers(one(3)), [1, 0])

    def test_what_was_given_back_may_be_changed(self):
        first = answers(list(ORDINARY))
        kept = list(first)
        for place in range(len(first)):
            first[place] = 99
        self.assertEqual(answers(list(ORDINARY)), kept)

    def test_it_prints_reads_and_imports_nothing(self):
        refuse = mock.Mock(side_effect=AssertionError("nothing is printed, read or imported"))
        printed = io.StringIO()
        with contextlib.redirect_stdout(printed), contextlib.redirect_stderr(printed):
            with mock.patch.multiple(builtins, open=refuse, input=refuse, print=refuse, __import__=refuse):
                answers(list(ORDINARY))
        self.assertEqual(printed.getvalue(), "")
        refuse.assert_not_called()
