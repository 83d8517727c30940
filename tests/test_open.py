"""Point 1, and -2 for calls of open."""

import unittest
from unittest import mock

from lines import (ANSWERS, BEGINS, CLOSE, STATE, coming, going, met, opening, reading, segment, sent, ticking, told,
                   writing)
from oneend.ends import End

OUT_OF_RANGE = (-1, 2, 3, -2147483648, 2147483647)


class OpenAnswers(unittest.TestCase):
    def test_every_first_and_calls_in_range(self):
        for first in (0, 1, 2147483648, 4294967295):
            for calls in (0, 1):
                self.assertEqual(told(opening(first, calls)), [[0]])

    def test_a_new_end_has_its_first_number_and_nothing_else(self):
        end = End(4294967295, False)
        self.assertEqual(end.first, 4294967295)
        self.assertIs(end.calling, False)
        self.assertEqual((end.written, end.acked, end.closed), ([], 0, False))
        self.assertEqual((end.came, end.unread, end.their_end), (0, [], None))
        self.assertEqual((end.broken, end.owes, end.probe), (False, False, False))
        self.assertEqual((end.next_number, end.sent, end.theirs), (0, 0, 0))
        self.assertEqual((end.their_first, end.ahead, end.waited, end.patience), (None, {}, 0, 1000))
        self.assertEqual((end.room(), end.window(), end.whole()), (16384, 8192, False))

    def test_first_and_calls_reach_the_end(self):
        with mock.patch("oneend.segments.End", wraps=End) as made:
            told(opening(4294967295, 1), opening(7, 0), opening(8, 2))
        self.assertEqual(made.call_args_list, [mock.call(4294967295, True), mock.call(7, False)])

    def test_with_calls_1_it_sends_its_beginning_at_once(self):
        for first in (0, 7, 4294967295):
            got = told(opening(first, 1), going())
            self.assertEqual(sent(got[1]), (first, 0, BEGINS, 8192, []))

    def test_with_calls_0_not_before_the_other_has_begun(self):
        got = told(opening(7, 0), going(), ticking(5000), going(), coming(segment(9, 0, BEGINS)), going())
        self.assertEqual((got[1], got[3]), ([0], [0]))
        self.assertEqual(sent(got[5]), (7, 10, BEGINS | ANSWERS, 8192, []))

    def test_two_ends_share_nothing(self):
        one = End(0, True)
        other = End(0, True)
        one.write([1, 2, 3])
        self.assertEqual(other.written, [])


class LaterOpen(unittest.TestCase):
    def test_out_of_range_is_refused(self):
        for calls in OUT_OF_RANGE:
            self.assertEqual(told(opening(), opening(5, calls)), [[0], [-2]])

    def test_out_of_range_leaves_the_end_closed(self):
        for calls in OUT_OF_RANGE:
            got = told(opening(), CLOSE, opening(5, calls), CLOSE, writing([1]))
            self.assertEqual(got, [[0], [0], [-2], [-1], [-1]])

    def test_out_of_range_leaves_what_was_written(self):
        for calls in OUT_OF_RANGE:
            got = told(opening(), writing([1] * 16380), opening(5, calls), writing([2] * 10))
            self.assertEqual(got, [[0], [16380], [-2], [4]])

    def test_out_of_range_leaves_an_open_end_open(self):
        got = told(opening(), opening(5, 2), writing([1]), CLOSE)
        self.assertEqual(got, [[0], [-2], [1], [0]])

    def test_in_range_is_a_new_end(self):
        for calls in (0, 1):
            got = told(opening(), writing([1] * 16384), CLOSE, opening(5, calls),
                       writing([2] * 10), reading(5), CLOSE, CLOSE)
            self.assertEqual(got, [[0], [16384], [0], [0], [10], [0], [0], [-1]])

    def test_out_of_range_leaves_what_came_and_was_sent(self):
        for calls in OUT_OF_RANGE:
            got = told(*met(), opening(5, calls), STATE, going())
            self.assertEqual(got[-3:], [[-2], [1], [0]])

    def test_a_new_end_has_met_no_other(self):
        got = told(*met(), opening(5, 1), STATE, going())
        self.assertEqual((got[-2], sent(got[-1])), ([0], (5, 0, BEGINS, 8192, [])))

    def test_a_new_end_has_all_its_room(self):
        got = told(opening(), writing([1] * 5000), opening(), writing([2] * 17000), writing([3]))
        self.assertEqual(got, [[0], [5000], [0], [16384], [0]])


if __name__ == "__main__":
    unittest.main()
