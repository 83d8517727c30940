"""The interface: how calls are handed in and answers given back."""

import contextlib
import inspect
import io
import unittest
from unittest import mock

from lines import (ANSWERS, BEGINS, CLOSE, ENDS, STATE, coming, end_that_got, going, line, opening, reading, segment,
                   ticking, writing)
from oneend.segments import answers

MIXED = line(opening(3, 1), writing([1, 2, 3]), reading(10), reading(-1), CLOSE, CLOSE, writing([4]),
             opening(3, 7), opening(4294967295, 0), writing([9] * 17000), writing([9]), CLOSE,
             opening(3, 1), going(), going(13), ticking(400), ticking(1000001), STATE, coming([1, 2]),
             coming(segment(9, 4, BEGINS | ANSWERS)), writing([5, 6]), going(), STATE,
             coming(segment(10, 6, ANSWERS | ENDS, 8192, [7, 8])), reading(1), reading(5), reading(5), ticking(5000),
             CLOSE, going(), ticking(1000), STATE)
MIXED_ANSWERS = line([1, 0, 1, 3, 1, 0, 1, -2, 1, 0, 1, -1, 1, -1, 1, -2, 1, 0, 1, 16384, 1, 0, 1, 0],
                     [1, 0], [16, 14, 0, 0, 0, 3, 0, 0, 0, 0, 1, 0, 32, 0, 0, 0, 1], [1, -2, 1, 0, 1, -2, 1, 0, 1, 0],
                     [1, 1, 1, 2], [18, 16, 0, 0, 0, 4, 0, 0, 0, 10, 4, 0, 32, 0, 0, 0, 5, 6, 1], [1, 1],
                     [1, 1, 2, 1, 7, 2, 1, 8, 1, -1, 1, 0],
                     [1, 0], [16, 14, 0, 0, 0, 6, 0, 0, 0, 13, 6, 0, 32, 0, 0, 0, 1], [1, 1, 1, 2])


class HowItIsCalled(unittest.TestCase):
    def test_its_argument(self):
        self.assertEqual(list(inspect.signature(answers).parameters), ["calls"])

    def test_each_answer_behind_its_length(self):
        self.assertEqual(answers([1, 0, 1]), [1, 0])
        self.assertEqual(answers([1, 0, 0, 2, 0, 4, 5, 3, 3]), [1, 0, 1, 0, 1, 0, 1, 0, 1, -1])
        self.assertEqual(answers(MIXED), MIXED_ANSWERS)

    def test_bytes_that_are_read_count_in_the_length(self):
        with mock.patch("oneend.segments.End", return_value=end_that_got([8, 9])):
            self.assertEqual(answers([1, 0, 1, 4, 5, 4, 5]), [1, 0, 3, 2, 8, 9, 1, 0])

    def test_whole_numbers_in_a_list(self):
        got = answers(MIXED)
        self.assertIs(type(got), list)
        self.assertEqual({type(number) for number in got}, {int})

    def test_the_most_calls(self):
        self.assertEqual(answers(line(opening(), *([reading(1)] * 399))), [1, 0] * 400)
        self.assertEqual(answers(line(opening(5, 0), *([going(), ticking(1), STATE] * 133))), [1, 0] * 400)

    def test_the_longest_row_and_list(self):
        calls = line(opening(), writing([1] * 29000), writing([2] * 993))
        self.assertEqual(len(calls), 30000)
        self.assertEqual(answers(calls), [1, 0, 1, 16384, 1, 0])

    def test_the_longest_segment(self):
        row = segment(9, 0, BEGINS, 0, [1] * (29000 - 14))
        calls = line(opening(5, 0), coming(row), coming(row), reading(9000))
        self.assertEqual(answers(calls[:29005] + [4, 9000]), [1, 0, 1, 1, 8193, 8192] + [1] * 8192)

    def test_no_row(self):
        self.assertEqual(answers([1, 5, 0, 5, 0, 2, 0, 8]), [1, 0, 1, 0, 1, 0, 1, 0])

    def test_bytes_that_look_like_calls(self):
        self.assertEqual(answers([1, 5, 0, 5, 4, 3, 4, 1, 2, 3]), [1, 0, 1, 0, 1, 0])

    def test_many_numbers_answered(self):
        calls = [opening(5, 1), going(), coming(segment(9, 6, BEGINS | ANSWERS, 65535)), writing([7] * 16384)]
        got = answers(line(*calls, *([going()] * 30 + [ticking(60000)]) * 12))
        self.assertGreater(len(got), 190000)
        self.assertEqual(got[-2:], [1, 1])


class WhatItLeavesAlone(unittest.TestCase):
    def test_the_list_that_is_handed_in(self):
        calls = list(MIXED)
        answers(calls)
        self.assertEqual(calls, MIXED)

    def test_the_list_is_not_changed_for_a_while_either(self):
        class Unchanging(list):
            def refuse(self, *values, **named):
                raise RuntimeError("changed")

            append = extend = insert = pop = remove = clear = sort = reverse = refuse
            __setitem__ = __delitem__ = __iadd__ = __imul__ = refuse

        self.assertEqual(answers(Unchanging(MIXED)), MIXED_ANSWERS)

    def test_nothing_is_kept_from_one_time_to_the_next(self):
        calls = line(opening(), writing([1] * 16384), CLOSE)
        self.assertEqual([answers(calls), answers(calls)], [[1, 0, 1, 16384, 1, 0]] * 2)
        self.assertEqual([answers(MIXED), answers(MIXED)], [MIXED_ANSWERS] * 2)

    def test_what_is_given_back_is_new_each_time(self):
        answers(MIXED).append(5)
        self.assertEqual(answers(MIXED), MIXED_ANSWERS)

    def test_it_prints_reads_and_imports_nothing(self):
        out = io.StringIO()
        refuse = mock.Mock(side_effect=RuntimeError("not asked for"))
        with contextlib.redirect_stdout(out), contextlib.redirect_stderr(out):
            with mock.patch("builtins.open", refuse), mock.patch("builtins.input", refuse):
                with mock.patch("builtins.__import__", refuse):
                    got = answers(MIXED)
        self.assertEqual((got, out.getvalue()), (MIXED_ANSWERS, ""))


if __name__ == "__main__":
    unittest.main()
