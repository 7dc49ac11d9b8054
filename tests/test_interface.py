"""The interface: how the list is laid out, what is given back, and what is left alone."""

import builtins
import contextlib
import io
import unittest
from unittest import mock

from ballotrows.tally import answers
from tests.helper import (
    ALL, BEGIN, EMPTY, FULL, ODD, apart, between, choose, count, counts_after, dots, fields, join, joined, lanes, least,
    one, padded, pick, row, run, tested, uncount,
)

# Calls 7 to 12 with what they answer: ordinary ones, then ones that are out of what they know.
ROW_CALLS = [
    (choose(0, [3], [5, 1], [6, 1, 1]), padded([7, 1])),
    (pick(ALL, 1, [64, 1, 2], [10, 11, 12], FULL), [255, 11, 12] + [10] * 61),
    (fields(255, [1, 2], [8, 63]), padded([2, 2, 1, 1, 1, 1, 1, 1])),
    (dots(1, 1, [1, 0, 0, 0, 7], [2], [255]), padded([255, 255, 255, 255, 7])),
    (tested(8, 0, FULL, [1, 0, 0, 0, 0, 0, 0, 0, 1]), [3]),
    (join(3, 2, 2), [11]),
    (choose(5, FULL, FULL, FULL), EMPTY),
    (pick(ALL, 3, [], FULL, FULL), EMPTY),
    (fields(0, FULL, FULL), EMPTY),
    (dots(0, 0, FULL, FULL, FULL), FULL),
    (tested(0, 1, FULL, FULL), [0]),
    (join(ALL, ALL, 65), [0]),
]

ALL_SORTS = [
    (BEGIN, [0]), (count(ALL, [3]), [0]), (uncount(1, [1]), [0]), (least(1), row(1)),
    (between(0, 0), [253] + [255] * 63), (ODD, row(1)), (one(1), [1]),
] + ROW_CALLS

ORDINARY = joined([
    BEGIN, count(ALL, FULL), count(5, [255, 255, 3]), uncount(ALL, row(0, 511)), uncount(ALL, row(0)),
    uncount(ALL, row(0, 1)), least(1), between(2, 2), ODD, one(1), one(512), BEGIN, count(ALL, []), one(1), least(0),
] + [call for call, answer in ROW_CALLS])

# 60 calls, the most that there may be, those of calls 7 to 12 with whole rows.
BYTES = [(place * 41 + 7) % 256 for place in range(64)]
LONGEST = joined([BEGIN, count(ALL, BYTES)] + [
    choose(0, BYTES, FULL, BYTES), choose(4, BYTES, FULL, BYTES), pick(ALL, 1, BYTES, BYTES, FULL),
    pick(ALL, 8, BYTES, FULL, BYTES), fields(ALL, BYTES, BYTES), dots(ALL, 0, BYTES, BYTES, BYTES),
    dots(ALL, 1, FULL, BYTES, BYTES), tested(2, 0, BYTES, BYTES), tested(4, 1, BYTES, FULL), join(ALL, 5, 40),
] * 5 + [uncount(ALL, BYTES), least(1), between(1, 2), ODD, one(3), one(-1), uncount(ALL, FULL), BEGIN])


class Unchangeable(list):
    """A list that tells of a change at once, so that one that is undone later is seen too."""

    def refuse(self, *given, **named):
        raise AssertionError("the list that was handed in was changed")

    __setitem__ = __delitem__ = __iadd__ = __imul__ = refuse
    append = extend = insert = pop = remove = clear = sort = reverse = refuse


class LaidOutTest(unittest.TestCase):
    def test_a_number_has_1_ahead_of_it(self):
        self.assertEqual(answers([0]), [1, 0])
        self.assertEqual(answers([0, 6, 0]), [1, 0, 1, 0])
        self.assertEqual(answers([0, 6, -1]), [1, 0, 1, -1])
        self.assertEqual(answers([0, 1, ALL, 1, 2, 6, 1]), [1, 0, 1, 0, 1, 1])

    def test_a_refusal_has_1_ahead_of_it_and_nothing_behind(self):
        self.assertEqual(answers([0, 2, ALL, 1, 2]), [1, 0, 1, 2])

    def test_a_row_has_64_ahead_of_it_and_all_its_bytes(self):
        self.assertEqual(answers([0, 3, 1]), [1, 0, 64] + EMPTY)
        self.assertEqual(answers([0, 3, 0]), [1, 0, 64] + FULL)
        self.assertEqual(answers([0, 4, 0, 0]), [1, 0, 64] + FULL)
        self.assertEqual(answers([0, 4, 1, 0]), [1, 0, 64] + EMPTY)
        self.assertEqual(answers([0, 5]), [1, 0, 64] + EMPTY)
        self.assertEqual(answers([0, 1, ALL, 2, 0, 9, 5]), [1, 0, 1, 0, 64, 0, 9] + [0] * 62)
        self.assertEqual(answers([0, 7, 1, 1, 1, 2, 3, 4, 0]), [1, 0, 64, 1] + [0] * 63)
        self.assertEqual(answers([0, 8, 3, 1, 2, 64, 1, 1, 5, 1, 9]), [1, 0, 64, 9, 0] + [0] * 62)
        self.assertEqual(answers([0, 9, 1, 2, 0, 6, 1, 8]), [1, 0, 64, 6] + [0] * 63)
        self.assertEqual(answers([0, 10, 1, 0, 1, 4, 1, 5, 1, 6]), [1, 0, 64, 34] + [0] * 63)

    def test_a_mask_and_what_is_joined_stand_alone(self):
        self.assertEqual(answers([0, 11, 1, 0, 2, 0, 1, 3, 0, 1, 1]), [1, 0, 1, 2])
        self.assertEqual(answers([0, 12, 5, 1, 3]), [1, 0, 1, 13])
        self.assertEqual(answers([0, 12, ALL, 0, 64]), [1, 0, 1, ALL])

    def test_each_call_is_answered_in_order(self):
        sizes = [len(part) for part in apart(answers(ORDINARY))]
        self.assertEqual(sizes, [1, 1, 1, 1, 1, 1, 64, 64, 64, 1, 1, 1, 1, 1, 64] + [64, 64, 64, 64, 1, 1] * 2)

    def test_calls_of_all_sorts_in_one_list(self):
        self.assertEqual(sorted({call[0] for call, answer in ALL_SORTS}), list(range(13)))
        self.assertEqual(run(*[call for call, answer in ALL_SORTS]), [answer for call, answer in ALL_SORTS])

    def test_calls_of_all_sorts_the_other_way_round(self):
        backward = [BEGIN] + [call for call, answer in reversed(ROW_CALLS)] + [ODD]
        expected = [[0]] + [answer for call, answer in reversed(ROW_CALLS)] + [EMPTY]
        self.assertEqual(run(*backward), expected)

    def test_rows_like_calls_are_not_read_as_calls(self):
        for call, answer in ROW_CALLS:
            with self.subTest(call=call):
                self.assertEqual(run(BEGIN, call, one(0), call), [[0], answer, [0], answer])

    def test_calls_7_to_12_change_no_count(self):
        counted = [count(ALL, row(0, 7, 8, 511)), count(ALL, row(7, 300))]
        between_them = [call for call, answer in ROW_CALLS]
        expected = [{0: 1, 7: 2, 8: 1, 300: 1, 511: 1}.get(question, 0) for question in range(512)]
        self.assertEqual(counts_after(*counted, *between_them), expected)
        self.assertEqual(counts_after(counted[0], *between_them, counted[1], *between_them), expected)

    def test_60_calls_with_whole_ballots(self):
        calls = joined([BEGIN] + [count(ALL, FULL)] * 30 + [uncount(ALL, FULL)] * 29)
        self.assertEqual(answers(calls), [1, 0] * 60)

    def test_60_calls_that_answer_rows(self):
        self.assertEqual(answers(joined([BEGIN] + [least(0)] * 59)), [1, 0] + ([64] + FULL) * 59)

    def test_60_calls_with_whole_rows(self):
        self.assertLessEqual(len(LONGEST), 15800)
        self.assertEqual(len(apart(answers(LONGEST))), 60)
        longest_call = dots(ALL, 1, lanes(4, [-5] * 16), [1] * 64, [1] * 64)
        told = answers(joined([BEGIN] + [longest_call] * 59))
        self.assertEqual(told, [1, 0] + ([64] + [255] * 64) * 59)

    def test_a_list_of_whole_numbers_is_given_back(self):
        for calls in (ORDINARY, LONGEST):
            told = answers(calls)
            self.assertIs(type(told), list)
            self.assertEqual({type(number) for number in told}, {int})

    def test_a_number_that_is_no_call_is_not_taken_for_one(self):
        for number in (-1, 13):
            with self.subTest(number=number), self.assertRaises(KeyError):
                answers([0, number, 0, 0, 0, 0, 0])


class LeftAloneTest(unittest.TestCase):
    def test_the_list_is_as_it_was(self):
        for calls in (ORDINARY, LONGEST):
            handed = list(calls)
            answers(handed)
            self.assertEqual(handed, calls)

    def test_the_list_is_not_changed_for_a_while_either(self):
        for calls in (ORDINARY, LONGEST):
            self.assertEqual(answers(Unchangeable(calls)), answers(list(calls)))

    def test_a_second_time_answers_as_the_first(self):
        for calls in (ORDINARY, LONGEST):
            handed = list(calls)
            first = answers(handed)
            self.assertEqual(answers(handed), first)
            self.assertEqual(answers(list(calls)), first)

    def test_nothing_is_kept_from_other_calls(self):
        answers(joined([BEGIN, count(ALL, FULL)]))
        self.assertEqual(answers(joined([BEGIN, least(1)])), [1, 0, 64] + EMPTY)

    def test_every_time_the_tally_is_new(self):
        # A begin is always first; without one a tally kept from before would show.
        answers(joined([BEGIN, count(ALL, FULL)]))
        self.assertEqual(answers(one(3)), [1, 0])

    def test_what_was_given_back_may_be_changed(self):
        first = answers(list(ORDINARY))
        kept = list(first)
        for place in range(len(first)):
            first[place] = 99
        self.assertEqual(answers(list(ORDINARY)), kept)

    def test_it_prints_reads_and_imports_nothing(self):
        refuse = mock.Mock(side_effect=AssertionError("nothing is printed, read or imported"))
        printed = io.StringIO()
        with contextlib.redirect_stdout(printed), contextlib.redirect_stderr(printed):
            with mock.patch.multiple(builtins, open=refuse, input=refuse, print=refuse, __import__=refuse):
                answers(list(ORDINARY))
                answers(list(LONGEST))
        self.assertEqual(printed.getvalue(), "")
        refuse.assert_not_called()
