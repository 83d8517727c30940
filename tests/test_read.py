"""Point 3, and -2 for most of read."""

import unittest

from lines import CLOSE, end_that_got, end_with, opening, reading, told, told_about, writing

OUT_OF_RANGE = (-1, 1000001, -2147483648, 2147483647)


class NothingCame(unittest.TestCase):
    def test_zero_alone(self):
        for most in (0, 1, 536, 999999, 1000000):
            self.assertEqual(told(opening(), reading(most)), [[0], [0]])

    def test_what_is_written_is_not_read_here(self):
        self.assertEqual(told(opening(), writing([1, 2]), reading(2), CLOSE, reading(2)), [[0], [2], [0], [0], [0]])


class OutOfRange(unittest.TestCase):
    def test_refused(self):
        for most in OUT_OF_RANGE:
            self.assertEqual(told(opening(), reading(most), reading(0)), [[0], [-2], [0]])

    def test_before_all_else(self):
        for values in ({}, {"broken": True}, {"their_end": 1}, {"broken": True, "their_end": 1}, {"closed": True}):
            for most in OUT_OF_RANGE:
                self.assertEqual(told_about(end_with(**values), reading(most)), [[-2]])

    def test_nothing_is_read(self):
        for most in OUT_OF_RANGE:
            end = end_that_got([5, 6])
            self.assertEqual(told_about(end, reading(most), reading(9)), [[-2], [2, 5, 6]])


class SomeCame(unittest.TestCase):
    def test_as_many_as_most_has_place_for(self):
        got = told_about(end_that_got([5, 0, 255]), reading(2), reading(2), reading(2))
        self.assertEqual(got, [[2, 5, 0], [1, 255], [0]])

    def test_just_all(self):
        self.assertEqual(told_about(end_that_got([5, 6]), reading(2), reading(2)), [[2, 5, 6], [0]])

    def test_most_of_a_million(self):
        row = [k % 256 for k in range(8192)]
        self.assertEqual(told_about(end_that_got(row), reading(1000000)), [[8192] + row])

    def test_most_0_takes_none(self):
        got = told_about(end_that_got([5]), reading(0), reading(1))
        self.assertEqual(got, [[0], [1, 5]])

    def test_most_0_refuses_nothing_while_there_are_bytes(self):
        end = end_that_got([5], their_end=2, broken=True)
        self.assertEqual(told_about(end, reading(0)), [[0]])

    def test_reading_gives_place_and_leaves_what_came(self):
        end = end_that_got([5, 6, 7])
        told_about(end, reading(2))
        self.assertEqual((end.came, end.window()), (3, 8191))


class WholeOrBroken(unittest.TestCase):
    def test_whole_and_empty(self):
        self.assertEqual(told_about(end_with(their_end=1), reading(0), reading(5)), [[-1], [-1]])

    def test_whole_after_the_last_byte(self):
        got = told_about(end_that_got([5, 6], their_end=3), reading(1), reading(1), reading(1))
        self.assertEqual(got, [[1, 5], [1, 6], [-1]])

    def test_an_end_further_on_is_not_whole(self):
        self.assertEqual(told_about(end_that_got([5], their_end=3), reading(1), reading(1)), [[1, 5], [0]])

    def test_broken_and_empty(self):
        self.assertEqual(told_about(end_with(broken=True), reading(0), reading(5)), [[-3], [-3]])

    def test_broken_gives_its_bytes_first(self):
        self.assertEqual(told_about(end_that_got([5], broken=True), reading(4), reading(4)), [[1, 5], [-3]])

    def test_broken_and_not_whole(self):
        end = end_that_got([5], their_end=3, broken=True)
        self.assertEqual(told_about(end, reading(4), reading(4)), [[1, 5], [-3]])

    def test_whole_comes_before_broken(self):
        end = end_that_got([5], their_end=2, broken=True)
        self.assertEqual(told_about(end, reading(4), reading(4)), [[1, 5], [-1]])


class OwesAnAnswer(unittest.TestCase):
    def owes_after(self, window, most, owed=False):
        end = end_that_got([1] * (8192 - window), owes=owed)
        told_about(end, reading(most))
        return end.owes

    def test_the_window_was_less_than_536_and_is_not_now(self):
        for window, most in ((535, 1), (0, 536), (0, 1000000), (200, 336)):
            self.assertTrue(self.owes_after(window, most))

    def test_the_window_is_still_less(self):
        for window, most in ((535, 0), (0, 535), (200, 335)):
            self.assertFalse(self.owes_after(window, most))

    def test_the_window_was_not_less(self):
        for window, most in ((536, 0), (536, 1), (536, 1000000), (8192, 1)):
            self.assertFalse(self.owes_after(window, most))

    def test_over_several_reads(self):
        end = end_that_got([1] * 8192)
        told_about(end, reading(535))
        self.assertFalse(end.owes)
        told_about(end, reading(1))
        self.assertTrue(end.owes)

    def test_what_was_owed_stays_owed(self):
        for window, most in ((535, 0), (536, 1), (8192, 1)):
            self.assertTrue(self.owes_after(window, most, owed=True))

    def test_a_read_out_of_range_owes_nothing(self):
        for most in OUT_OF_RANGE:
            self.assertFalse(self.owes_after(0, most))


if __name__ == "__main__":
    unittest.main()
