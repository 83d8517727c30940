"""Point 4: what a segment that answers does; and the room of point 2 after it."""

import unittest

from lines import (ANSWERS, BEGINS, CLOSE, ENDS, FIRST, OTHER, STATE, answer_in, coming, data_in, end_after, going, met,
                   opening, reading, segment, sent, some_bytes, ticking, told, told_met, values_of, writing)

ROW = some_bytes(1200)


def end_that_sent(*calls, **values):
    """An end that sent bytes 1 to 1000, next and sent 1001, and has 200 more."""
    return end_after(*met(**values), writing(ROW), going(550), going(478), *calls)


def numbers_of(end):
    return (end.acked, end.next_number, end.sent, end.theirs)


class WhatItWants(unittest.TestCase):
    def test_before_any(self):
        self.assertEqual(numbers_of(end_that_sent()), (1, 1001, 1001, 8192))

    def test_some_of_what_was_sent(self):
        self.assertEqual(numbers_of(end_that_sent(answer_in(2, 700))), (2, 1001, 1001, 700))
        self.assertEqual(numbers_of(end_that_sent(answer_in(600, 700))), (600, 1001, 1001, 700))

    def test_just_what_was_sent(self):
        self.assertEqual(numbers_of(end_that_sent(answer_in(1001, 700))), (1001, 1001, 1001, 700))

    def test_the_same_again_tells_the_window(self):
        self.assertEqual(numbers_of(end_that_sent(answer_in(1, 0))), (1, 1001, 1001, 0))
        self.assertEqual(numbers_of(end_that_sent(answer_in(600, 0), answer_in(600, 65535))), (600, 1001, 1001, 65535))

    def test_less_than_acked_says_nothing(self):
        for number in (599, 1, 0, -1, 600 - 2 ** 31 + 1, 600 - 2 ** 31):
            end = end_that_sent(answer_in(600, 700), answer_in(number, 5))
            self.assertEqual(numbers_of(end), (600, 1001, 1001, 700))
            self.assertFalse(end.owes)

    def test_less_than_acked_and_its_bytes_are_taken(self):
        row = segment(OTHER + 1, FIRST + 599, ANSWERS | ENDS, 5, [7, 8])
        got = told_met(writing(ROW), going(), going(), answer_in(600), coming(row), reading(9), reading(9), STATE)
        self.assertEqual(got[4:], [[1], [2, 7, 8], [-1], [2]])

    def test_more_than_was_sent_owes_and_that_is_all(self):
        for number in (1002, 1201, 5000, 1 + 2 ** 31 - 1):
            row = segment(OTHER + 1, FIRST + number, ANSWERS | ENDS, 5, [7, 8])
            before = values_of(end_that_sent())
            before["owes"] = True
            self.assertEqual(values_of(end_that_sent(coming(row))), before)

    def test_more_than_was_sent_is_answered_1(self):
        got = told_met(answer_in(2), going(), going())
        self.assertEqual((got[0], got[2]), ([1], [0]))
        self.assertEqual(sent(got[1]), (FIRST + 1, OTHER + 1, ANSWERS, 8192, []))

    def test_more_than_was_sent_with_the_beginning(self):
        row = segment(OTHER, FIRST + 2, ANSWERS | BEGINS, 5, [7, 8])
        got = told(opening(FIRST, 1), going(), coming(row), reading(9), going(), STATE)
        self.assertEqual((got[2], got[3], got[5]), ([1], [0], [0]))
        self.assertEqual(sent(got[4]), (FIRST + 1, OTHER + 1, ANSWERS, 8192, []))

    def test_its_beginning_before_that_was_sent(self):
        row = segment(OTHER, FIRST + 1, ANSWERS | BEGINS, 8192, [7])
        got = told(opening(FIRST, 0), coming(row), STATE, reading(9), going(), STATE)
        self.assertEqual((got[1:4], got[5]), ([[1], [0], [0]], [0]))
        self.assertEqual(sent(got[4]), (FIRST, OTHER + 1, ANSWERS | BEGINS, 8192, []))

    def test_the_nearest_of_two_is_the_smaller(self):
        # 1 less 2^31 says nothing, so the bytes are taken; 1 and 2^31 would be more than was sent.
        row = segment(OTHER + 1, FIRST + 1 + 2 ** 31, ANSWERS, 0, [7])
        self.assertEqual(told_met(coming(row), reading(9)), [[1], [1, 7]])
        row = segment(OTHER + 1, FIRST + 2 ** 31, ANSWERS, 0, [7])
        self.assertEqual(told_met(coming(row), reading(9)), [[1], [0]])

    def test_nearest_to_acked_and_not_to_sent(self):
        row = segment(OTHER + 1, FIRST + 600 + 2 ** 31, ANSWERS, 5, [7])
        end = end_that_sent(answer_in(600), coming(row))
        self.assertEqual((end.acked, end.unread), (600, [7]))
        row = segment(OTHER + 1, FIRST + 599 + 2 ** 31, ANSWERS, 5, [7])
        end = end_that_sent(answer_in(600), coming(row))
        self.assertEqual((end.acked, end.unread, end.owes), (600, [], True))

    def test_one_that_does_not_answer(self):
        row = segment(OTHER + 1, FIRST + 600, 0, 5)
        self.assertEqual(numbers_of(end_that_sent(coming(row))), (1, 1001, 1001, 8192))
        row = segment(OTHER + 1, FIRST + 5000, ENDS, 5, [7])
        self.assertEqual(told_met(coming(row), reading(3)), [[1], [1, 7]])

    def test_its_end(self):
        got = told_met(writing([1, 2]), CLOSE, going(), STATE, answer_in(3), STATE, answer_in(5), STATE, going(),
                       answer_in(4), STATE)
        self.assertEqual([got[3], got[5], got[7], got[10]], [[1], [1], [1], [3]])
        self.assertEqual(sent(got[8]).flags, ANSWERS)


class NextAndSent(unittest.TestCase):
    def test_next_is_not_less_than_acked(self):
        end = end_that_sent(ticking(1000))
        self.assertEqual(numbers_of(end), (1, 1, 1001, 8192))
        end = end_that_sent(ticking(1000), answer_in(600, 8000))
        self.assertEqual(numbers_of(end), (600, 600, 1001, 8000))
        end = end_that_sent(ticking(1000), answer_in(1001, 8000))
        self.assertEqual(numbers_of(end), (1001, 1001, 1001, 8000))

    def test_what_is_sent_next(self):
        got = told_met(writing(ROW), going(), going(), ticking(1000), answer_in(600), going(), going(), going())
        self.assertEqual(sent(got[5]), (FIRST + 600, OTHER + 1, ANSWERS, 8192, ROW[599:1135]))
        self.assertEqual(sent(got[6]), (FIRST + 1136, OTHER + 1, ANSWERS, 8192, ROW[1135:]))
        self.assertEqual(got[7], [0])

    def test_next_that_is_greater_stays(self):
        got = told_met(writing(ROW), going(), going(), answer_in(600), going())
        self.assertEqual(sent(got[4]).place, FIRST + 1073)


class WaitedAndPatience(unittest.TestCase):
    def waiting(self, *calls):
        end = end_that_sent(ticking(1000), ticking(400), *calls)
        return (end.waited, end.patience)

    def test_before(self):
        self.assertEqual(self.waiting(), (400, 2000))

    def test_acked_has_grown(self):
        self.assertEqual(self.waiting(answer_in(2)), (0, 1000))
        self.assertEqual(self.waiting(answer_in(1001)), (0, 1000))

    def test_acked_has_not_grown(self):
        self.assertEqual(self.waiting(answer_in(1, 0)), (400, 2000))
        self.assertEqual(self.waiting(answer_in(0)), (400, 2000))
        self.assertEqual(self.waiting(answer_in(1002)), (400, 2000))
        self.assertEqual(self.waiting(data_in(1, [1, 2])), (400, 2000))


class Room(unittest.TestCase):
    def test_after_bytes_are_acked(self):
        full = [writing(some_bytes(17000)), going(), going(), writing([1])]
        got = told_met(*full, answer_in(2), writing([1, 2]), answer_in(501), writing(some_bytes(600)), writing([1]))
        self.assertEqual((got[0], got[3]), ([16384], [0]))
        self.assertEqual(got[5:], [[1], [1], [499], [0]])

    def test_not_after_the_beginning_alone(self):
        got = told(opening(FIRST, 1), writing(some_bytes(17000)), going(), *met()[2:3], writing([1]))
        self.assertEqual((got[1], got[4]), ([16384], [0]))

    def test_not_after_more_than_was_sent(self):
        got = told_met(writing(some_bytes(17000)), going(), answer_in(600), writing([1]))
        self.assertEqual(got[3], [0])

    def test_what_is_written_then_is_sent_behind(self):
        got = told_met(writing([1, 2, 3]), going(), answer_in(4), writing([4, 5]), going())
        self.assertEqual(sent(got[4]), (FIRST + 4, OTHER + 1, ANSWERS, 8192, [4, 5]))


class GoingRound(unittest.TestCase):
    def test_its_first_number_is_the_last(self):
        first = 4294967295
        got = told_met(STATE, writing([1, 2]), going(), answer_in(3, 8192, first), writing([3]), going(), first=first)
        self.assertEqual((got[0], got[3]), ([1], [1]))
        self.assertEqual((sent(got[2]).place, sent(got[5]).place), (0, 2))

    def test_over_the_edge(self):
        for first in range(4294967296 - 1003, 4294967296, 100):
            for number in (1, 2, 500, 1000, 1001):
                end = end_that_sent(answer_in(number, 700, first), first=first)
                self.assertEqual(numbers_of(end), (number, 1001, 1001, 700))
            for number in (0, -5, 1002):
                end = end_that_sent(answer_in(number, 700, first), first=first)
                self.assertEqual(numbers_of(end), (1, 1001, 1001, 8192))
                self.assertEqual(end.owes, number == 1002)


if __name__ == "__main__":
    unittest.main()
