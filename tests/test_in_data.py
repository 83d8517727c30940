"""Point 4: beginnings, bytes and ends that come."""

import unittest

from lines import (ANSWERS, BEGINS, CLOSE, ENDS, FIRST, OTHER, STATE, coming, data_in, going, met, opening, reading,
                   segment, sent, some_bytes, told, told_met, writing)

ALL = reading(1000000)


def read_after(*calls, **values):
    """The bytes that can be read after these calls."""
    got = told_met(*calls, ALL, **values)
    return got[-1][1:]


def wanted_after(*calls, other=OTHER):
    """The number of the other end that's wanted after these calls; the end is made to owe an answer."""
    got = told_met(*calls, data_in(1, [], BEGINS, other), going(), other=other)
    return (sent(got[-1]).wanted - other) % 2 ** 32


class TheBeginning(unittest.TestCase):
    def test_it_comes(self):
        got = told(opening(FIRST, 0), STATE, coming(segment(OTHER, 0, BEGINS)), going(), STATE)
        self.assertEqual((got[1], got[2], got[4]), ([0], [1], [0]))
        self.assertEqual(sent(got[3]), (FIRST, OTHER + 1, BEGINS | ANSWERS, 8192, []))

    def test_its_place_is_the_first_number(self):
        for other in (0, 1, 2147483647, 2147483648, 4294967295):
            got = told(opening(FIRST, 0), coming(segment(other, 0, BEGINS)), going())
            self.assertEqual(sent(got[2]).wanted, (other + 1) % 2 ** 32)

    def test_it_owes_an_answer(self):
        got = told(opening(FIRST, 1), going(), going(), coming(segment(OTHER, 0, BEGINS)), going(), going())
        self.assertEqual([got[2], got[3], got[5]], [[0], [1], [0]])
        self.assertEqual(sent(got[4]), (FIRST + 1, OTHER + 1, ANSWERS, 8192, []))

    def test_with_bytes(self):
        got = told(opening(FIRST, 0), coming(segment(OTHER, 0, BEGINS, 0, [7, 8])), ALL, going())
        self.assertEqual(got[1:3], [[1], [2, 7, 8]])
        self.assertEqual(sent(got[3]).wanted, OTHER + 3)

    def test_with_an_end(self):
        got = told(opening(FIRST, 0), coming(segment(OTHER, 0, BEGINS | ENDS)), ALL, going())
        self.assertEqual(got[1:3], [[1], [-1]])
        self.assertEqual(sent(got[3]).wanted, OTHER + 2)

    def test_with_bytes_and_an_end(self):
        got = told(opening(FIRST, 0), coming(segment(OTHER, 0, BEGINS | ENDS, 0, [7])), ALL, ALL)
        self.assertEqual(got[1:], [[1], [1, 7], [-1]])

    def test_again_brings_nothing_but_an_answer(self):
        got = told_met(data_in(1, [1, 2]), going(), data_in(0, [], BEGINS), going(), going(), ALL)
        self.assertEqual([got[0], got[2], got[4], got[5]], [[1], [1], [0], [2, 1, 2]])
        self.assertEqual(sent(got[3]), (FIRST + 1, OTHER + 3, ANSWERS, 8190, []))

    def test_again_at_another_place_is_not_the_first_number(self):
        got = told_met(data_in(5, [], BEGINS), going(), data_in(1, [3]), ALL)
        self.assertEqual(sent(got[1]).wanted, OTHER + 1)
        self.assertEqual(got[2:], [[1], [1, 3]])

    def test_again_with_bytes_counts_behind_the_beginning(self):
        self.assertEqual(read_after(data_in(0, [5, 6], BEGINS)), [5, 6])
        self.assertEqual(read_after(data_in(1, [5]), data_in(0, [5, 6, 7], BEGINS)), [5, 6, 7])
        self.assertEqual(read_after(data_in(1, [5, 6], BEGINS)), [])
        self.assertEqual(read_after(data_in(1, [5, 6], BEGINS), data_in(1, [4])), [4, 5, 6])


class Bytes(unittest.TestCase):
    def test_in_order(self):
        got = told_met(data_in(1, [1, 2]), data_in(3, [3]), data_in(4, [4, 5]), ALL, ALL)
        self.assertEqual(got, [[1], [1], [1], [5, 1, 2, 3, 4, 5], [0]])

    def test_read_between(self):
        got = told_met(data_in(1, [1, 2]), reading(1), data_in(3, [3]), ALL)
        self.assertEqual(got, [[1], [1, 1], [1], [2, 2, 3]])

    def test_out_of_order(self):
        got = told_met(data_in(4, [4, 5]), ALL, data_in(3, [3]), ALL, data_in(1, [1, 2]), ALL)
        self.assertEqual(got, [[1], [0], [1], [0], [1], [5, 1, 2, 3, 4, 5]])

    def test_twice(self):
        self.assertEqual(read_after(data_in(1, [1, 2]), data_in(1, [1, 2])), [1, 2])
        self.assertEqual(read_after(data_in(3, [3]), data_in(3, [3]), data_in(1, [1, 2])), [1, 2, 3])

    def test_twice_when_read_already(self):
        got = told_met(data_in(1, [1, 2]), ALL, data_in(1, [1, 2]), ALL)
        self.assertEqual(got, [[1], [2, 1, 2], [1], [0]])

    def test_overlapping(self):
        self.assertEqual(read_after(data_in(1, [1, 2, 3]), data_in(2, [2, 3, 4, 5])), [1, 2, 3, 4, 5])
        self.assertEqual(read_after(data_in(3, [3, 4]), data_in(1, [1, 2, 3])), [1, 2, 3, 4])
        self.assertEqual(read_after(data_in(2, [2]), data_in(4, [4]), data_in(1, [1, 2, 3, 4, 5])), [1, 2, 3, 4, 5])

    def test_the_byte_that_came_first_is_kept(self):
        self.assertEqual(read_after(data_in(2, [2, 3]), data_in(1, [1, 92, 93, 94])), [1, 2, 3, 94])
        self.assertEqual(read_after(data_in(1, [1, 2]), data_in(1, [91, 92, 93])), [1, 2, 93])
        self.assertEqual(read_after(data_in(2, [0]), data_in(2, [9]), data_in(1, [1])), [1, 0])

    def test_behind(self):
        got = told_met(data_in(1, [1, 2, 3]), data_in(2, [9]), data_in(1, [9, 9, 9]), going(), ALL)
        self.assertEqual((got[:3], got[4]), ([[1], [1], [1]], [3, 1, 2, 3]))
        self.assertEqual(sent(got[3]).wanted, OTHER + 4)

    def test_from_behind_the_beginning(self):
        self.assertEqual(read_after(data_in(0, [9, 1, 2])), [1, 2])
        self.assertEqual(read_after(data_in(-2, [9, 9, 9, 1, 2])), [1, 2])
        self.assertEqual(read_after(data_in(-5000, [9] * 5001 + [1, 2])), [1, 2])

    def test_gaps_are_told_as_wanted(self):
        self.assertEqual(wanted_after(data_in(1, [1]), data_in(3, [3])), 2)
        self.assertEqual(wanted_after(data_in(1, [1]), data_in(3, [3]), data_in(2, [2])), 4)

    def test_no_bytes(self):
        got = told_met(data_in(1, []), going(), ALL)
        self.assertEqual(got, [[1], [0], [0]])

    def test_one_that_also_answers(self):
        row = segment(OTHER + 1, FIRST + 1, ANSWERS, 8192, [4, 0, 255])
        self.assertEqual(told_met(coming(row), ALL), [[1], [3, 4, 0, 255]])


class TheWindow(unittest.TestCase):
    def test_past_it_in_one_segment(self):
        row = some_bytes(8200)
        self.assertEqual(read_after(data_in(1, row)), row[:8192])

    def test_the_last_byte_in_it_and_the_first_past_it(self):
        row = some_bytes(8194)
        got = told_met(data_in(8192, row[8191:8194]), data_in(1, row[:8191]), ALL, data_in(8194, row[8193:]), ALL,
                       data_in(8193, row[8192:8193]), ALL)
        self.assertEqual(got[2], [8192] + row[:8192])
        self.assertEqual(got[4], [0])
        self.assertEqual(got[6], [2] + row[8192:])

    def test_full_takes_none(self):
        row = some_bytes(8192)
        got = told_met(data_in(1, row), going(), data_in(8193, [1, 2]), going(), ALL, ALL)
        self.assertEqual((sent(got[1]).window, sent(got[1]).wanted), (0, OTHER + 8193))
        self.assertEqual((sent(got[3]).window, sent(got[3]).wanted), (0, OTHER + 8193))
        self.assertEqual(got[4:], [[8192] + row, [0]])

    def test_reading_makes_place(self):
        row = some_bytes(8192)
        got = told_met(data_in(1, row), reading(2), data_in(8193, [1, 2, 3]), ALL)
        self.assertEqual(got[3], [8192] + row[2:] + [1, 2])

    def test_bytes_ahead_take_no_place(self):
        got = told_met(data_in(5, some_bytes(4000)), going())
        self.assertEqual(sent(got[1]).window, 8192)

    def test_it_is_that_from_before_the_bytes_came_in_order(self):
        row = some_bytes(8192)
        self.assertEqual(read_after(data_in(1, row[:4000]), data_in(4001, row[4000:] + [1])), row)

    def test_unread_bytes_make_it_smaller(self):
        got = told_met(data_in(1, some_bytes(100)), data_in(8193, [7]), data_in(101, some_bytes(8092)), ALL, ALL)
        self.assertEqual(got[3], [8192] + some_bytes(100) + some_bytes(8092))
        self.assertEqual(got[4], [0])


class TheEnd(unittest.TestCase):
    def test_without_bytes(self):
        self.assertEqual(told_met(data_in(1, [], ENDS), ALL, STATE), [[1], [-1], [2]])
        self.assertEqual(wanted_after(data_in(1, [], ENDS)), 2)

    def test_with_bytes(self):
        got = told_met(data_in(1, [1, 2], ENDS), STATE, reading(1), ALL, ALL)
        self.assertEqual(got, [[1], [2], [1, 1], [1, 2], [-1]])
        self.assertEqual(wanted_after(data_in(1, [1, 2], ENDS)), 4)

    def test_ahead_of_bytes_that_are_missing(self):
        got = told_met(data_in(3, [3], ENDS), STATE, ALL, data_in(1, [1]), ALL, STATE, data_in(2, [2]), STATE, ALL, ALL)
        self.assertEqual(got, [[1], [1], [0], [1], [1, 1], [1], [1], [2], [2, 2, 3], [-1]])

    def test_alone_ahead_of_bytes_that_are_missing(self):
        got = told_met(data_in(3, [], ENDS), STATE, data_in(1, [1, 2]), STATE, ALL, ALL)
        self.assertEqual(got, [[1], [1], [1], [2], [2, 1, 2], [-1]])
        self.assertEqual(wanted_after(data_in(3, [], ENDS), data_in(1, [1])), 2)

    def test_twice(self):
        got = told_met(data_in(1, [1], ENDS), data_in(1, [1], ENDS), ALL, data_in(2, [], ENDS), ALL, STATE)
        self.assertEqual(got, [[1], [1], [1, 1], [1], [-1], [2]])

    def test_the_number_that_was_told_first_holds(self):
        got = told_met(data_in(3, [], ENDS), data_in(2, [], ENDS), data_in(1, [1]), STATE, data_in(2, [2]), STATE)
        self.assertEqual(got, [[1], [1], [1], [1], [1], [2]])
        got = told_met(data_in(2, [], ENDS), data_in(3, [], ENDS), data_in(1, [1]), STATE)
        self.assertEqual(got, [[1], [1], [1], [2]])

    def test_behind_what_came_in_order(self):
        got = told_met(data_in(1, [1, 2, 3]), data_in(3, [], ENDS), STATE, data_in(2, [2], ENDS), STATE,
                       data_in(4, [], ENDS), STATE)
        self.assertEqual([got[2], got[4], got[6]], [[1], [1], [2]])

    def test_one_behind_is_compared_before_its_bytes_come_in_order(self):
        got = told_met(data_in(3, [3]), data_in(1, [1, 2], ENDS), STATE, ALL)
        self.assertEqual(got[1:], [[1], [1], [3, 1, 2, 3]])

    def test_no_further_than_the_window(self):
        row = some_bytes(8192)
        got = told_met(data_in(8193, [], ENDS), data_in(1, row), STATE, ALL, ALL)
        self.assertEqual(got[2:], [[2], [8192] + row, [-1]])
        got = told_met(data_in(8194, [], ENDS), data_in(1, row), ALL, data_in(8193, [1]), STATE,
                       data_in(8194, [], ENDS), STATE)
        self.assertEqual([got[4], got[6]], [[1], [2]])

    def test_with_bytes_past_the_window(self):
        row = some_bytes(8193)
        self.assertEqual(told_met(data_in(1, row[:8192], ENDS), STATE), [[1], [2]])
        got = told_met(data_in(1, row, ENDS), STATE, ALL, data_in(8193, row[8192:]), STATE)
        self.assertEqual([got[1], got[4]], [[1], [1]])

    def test_alone_when_the_window_is_full(self):
        got = told_met(data_in(1, some_bytes(8192)), data_in(8193, [], ENDS), STATE)
        self.assertEqual(got[2], [2])

    def test_bytes_past_it_come_as_the_words_say(self):
        got = told_met(data_in(1, [1], ENDS), STATE, data_in(2, [2]), STATE, ALL, ALL)
        self.assertEqual(got, [[1], [2], [1], [1], [2, 1, 2], [0]])


class ItOwes(unittest.TestCase):
    def owes_after(self, *calls):
        got = sent(told_met(*calls, going())[-1])
        if got is not None:
            self.assertEqual((got.flags, got.data), (ANSWERS, []))
        return got is not None

    def test_after_what_begins_ends_or_has_bytes(self):
        for number in (-9, 0, 1, 2, 9000):
            for flags in (BEGINS, ENDS, BEGINS | ENDS):
                self.assertTrue(self.owes_after(data_in(number, [], flags)))
            self.assertTrue(self.owes_after(data_in(number, [1])))

    def test_not_after_another(self):
        for number in (-9, 0, 1, 2, 9000):
            self.assertFalse(self.owes_after(data_in(number, [])))
            self.assertFalse(self.owes_after(coming(segment(OTHER + number, FIRST + 1, ANSWERS))))

    def test_what_it_owes_stays(self):
        self.assertTrue(self.owes_after(data_in(1, [1]), data_in(2, [])))


class GoingRound(unittest.TestCase):
    def test_the_other_first_number_is_the_last(self):
        other = 4294967295
        got = told_met(data_in(1, [1, 2], 0, other), going(), ALL, other=other)
        self.assertEqual(sent(got[1]).wanted, 2)
        self.assertEqual(got[2], [2, 1, 2])

    def test_within_the_bytes(self):
        other = 4294967290
        calls = [data_in(k, [k], 0, other) for k in (8, 3, 1, 6, 2, 7, 5, 4, 9)]
        self.assertEqual(read_after(*calls, other=other), list(range(1, 10)))
        self.assertEqual(wanted_after(*calls, other=other), 10)
        self.assertEqual(wanted_after(data_in(1, some_bytes(7), ENDS, other), other=other), 9)

    def test_behind_and_ahead_over_the_edge(self):
        other = 4294967290
        row = some_bytes(20)
        got = told_met(data_in(1, row[:10], 0, other), data_in(1, row, 0, other), data_in(3, [9], 0, other),
                       data_in(22, [22], 0, other), data_in(21, [21], ENDS, other), ALL, STATE, other=other)
        self.assertEqual(got[5:], [[22] + row + [21, 22], [1]])

    def test_the_end_over_the_edge(self):
        for other in (4294967294, 4294967295, 0):
            got = told_met(data_in(2, [], ENDS, other), data_in(1, [1], 0, other), ALL, ALL, other=other)
            self.assertEqual(got, [[1], [1], [1, 1], [-1]])

    def test_far_ahead_and_far_behind(self):
        for far in (8193, 65536, 2 ** 31 - 2, 2 ** 31 - 1, 2 ** 31, 2 ** 31 + 1, 2 ** 32 - 5):
            got = told_met(data_in(1 + far, [9]), data_in(1, [1, 2]), ALL)
            self.assertEqual(got, [[1], [1], [2, 1, 2]])


class WhatComesBearsOnTheRest(unittest.TestCase):
    def test_owes_after_a_read_that_makes_the_window_large_again(self):
        got = told_met(data_in(1, some_bytes(8192)), going(), reading(535), going(), reading(1), going(), going())
        self.assertEqual((sent(got[1]).window, got[3], got[6]), (0, [0], [0]))
        self.assertEqual(sent(got[5]), (FIRST + 1, OTHER + 8193, ANSWERS, 536, []))

    def test_a_read_of_a_large_window_owes_nothing(self):
        got = told_met(data_in(1, some_bytes(7656)), going(), reading(5000), going())
        self.assertEqual((sent(got[1]).window, got[3]), (536, [0]))

    def test_its_own_writing_is_another_matter(self):
        got = told_met(writing([8, 9]), data_in(1, [1], ENDS), CLOSE, ALL, ALL)
        self.assertEqual(got, [[2], [1], [0], [1, 1], [-1]])

    def test_what_is_handed_in_twice_is_the_same_twice(self):
        calls = met() + [data_in(3, [3]), data_in(1, [1, 2]), ALL]
        self.assertEqual(told(*calls), told(*calls))


if __name__ == "__main__":
    unittest.main()
