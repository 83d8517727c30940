"""Point 2."""

import unittest

from lines import CLOSE, end_with, opening, told, told_about, writing
from oneend.ends import End


def some_bytes(n):
    return [k % 256 for k in range(n)]


class WriteAnswers(unittest.TestCase):
    def test_no_bytes(self):
        self.assertEqual(told(opening(), writing([])), [[0], [0]])

    def test_some_bytes(self):
        self.assertEqual(told(opening(), writing([0, 255, 7]), writing([9])), [[0], [3], [1]])

    def test_bytes_that_look_like_calls(self):
        self.assertEqual(told(opening(), writing([3, 4, 1, 2]), CLOSE), [[0], [4], [0]])

    def test_around_the_room(self):
        for n, taken in ((16383, 16383), (16384, 16384), (16385, 16384), (29000, 16384)):
            self.assertEqual(told(opening(), writing(some_bytes(n))), [[0], [taken]])

    def test_what_room_is_left(self):
        got = told(opening(), writing(some_bytes(10000)), writing(some_bytes(10000)), writing([1, 2]))
        self.assertEqual(got, [[0], [10000], [6384], [0]])

    def test_again_when_there_is_no_room(self):
        got = told(opening(), writing(some_bytes(16384)), writing([1]), writing([]), writing([1, 2]), CLOSE)
        self.assertEqual(got, [[0], [16384], [0], [0], [0], [0]])

    def test_an_end_that_does_not_call_takes_bytes_too(self):
        self.assertEqual(told(opening(9, 0), writing([1, 2])), [[0], [2]])


class WhatIsTaken(unittest.TestCase):
    def test_the_first_bytes_in_order(self):
        end = End(0, True)
        row = some_bytes(20000)
        told_about(end, writing(row[:300]), writing(row[300:]))
        self.assertEqual(end.written, row[:16384])

    def test_it_is_a_copy(self):
        end = End(0, True)
        row = [1, 2, 3]
        end.write(row)
        row[0] = 99
        self.assertEqual(end.written, [1, 2, 3])


class RoomOnceAcked(unittest.TestCase):
    def test_the_beginning_gives_no_room(self):
        for acked in (0, 1):
            end = end_with(written=[7] * 16384, acked=acked)
            self.assertEqual(told_about(end, writing([1])), [[0]])

    def test_each_acked_byte_gives_room(self):
        for acked, taken in ((2, 1), (101, 100), (16385, 16384)):
            end = end_with(written=[7] * 16384, acked=acked)
            self.assertEqual(told_about(end, writing(some_bytes(20000)), writing([1])), [[taken], [0]])

    def test_an_acked_end_is_not_more_room(self):
        self.assertEqual(end_with(written=[7] * 10, acked=12, closed=True).room(), 16384)

    def test_an_acked_beginning_is_not_more_room(self):
        self.assertEqual(end_with(acked=1).room(), 16384)


class Refused(unittest.TestCase):
    def test_write_after_close(self):
        got = told(opening(), writing([1]), CLOSE, writing([1]), writing([]))
        self.assertEqual(got, [[0], [1], [0], [-1], [-1]])

    def test_write_after_close_when_there_is_no_room(self):
        got = told(opening(), writing(some_bytes(16384)), CLOSE, writing([1]))
        self.assertEqual(got, [[0], [16384], [0], [-1]])

    def test_write_and_close_when_broken(self):
        end = end_with(broken=True)
        self.assertEqual(told_about(end, writing([1]), writing([]), CLOSE), [[-1], [-1], [-1]])
        self.assertEqual((end.written, end.closed), ([], False))

    def test_a_refused_write_changes_nothing(self):
        end = end_with(written=[4], closed=True)
        self.assertEqual(told_about(end, writing([1])), [[-1]])
        self.assertEqual(end.written, [4])


class CloseAnswers(unittest.TestCase):
    def test_close_and_again(self):
        self.assertEqual(told(opening(), CLOSE, CLOSE, CLOSE), [[0], [0], [-1], [-1]])

    def test_close_after_a_later_open(self):
        self.assertEqual(told(opening(), CLOSE, opening(1, 0), CLOSE, CLOSE), [[0], [0], [0], [0], [-1]])

    def test_the_end_is_closed_and_keeps_its_bytes(self):
        end = End(0, True)
        told_about(end, writing([1, 2]), CLOSE)
        self.assertEqual((end.written, end.closed), ([1, 2], True))


if __name__ == "__main__":
    unittest.main()
