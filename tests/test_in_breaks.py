"""Point 4: segments that break; and what all other calls are about a broken end."""

import unittest

from lines import (ANSWERS, BEGINS, BREAKS, CLOSE, ENDS, FIRST, OTHER, STATE, answer_in, coming, data_in, end_after,
                   going, met, opening, reading, segment, some_bytes, ticking, told, told_met, values_of, writing)

REFUSES = BREAKS | ANSWERS


class BeforeTheBeginning(unittest.TestCase):
    def test_it_answers_and_its_beginning_is_sent(self):
        for place in (0, OTHER, 4294967295):
            got = told(opening(FIRST, 1), going(), coming(segment(place, FIRST + 1, REFUSES)), STATE, going())
            self.assertEqual(got[2:], [[1], [5], [0]])

    def test_its_beginning_is_not_sent(self):
        for calls in (0, 1):
            got = told(opening(FIRST, calls), coming(segment(OTHER, FIRST + 1, REFUSES)), STATE)
            self.assertEqual(got[1:], [[0], [0]])
        got = told(opening(FIRST, 0), going(), coming(segment(OTHER, FIRST + 1, REFUSES)), STATE)
        self.assertEqual(got[1:], [[0], [0], [0]])

    def test_its_beginning_is_to_be_sent_again(self):
        got = told(opening(FIRST, 1), going(), ticking(1000), coming(segment(0, FIRST + 1, REFUSES)), STATE)
        self.assertEqual(got[2:], [[1], [1], [5]])

    def test_it_wants_another_number(self):
        for number in (0, 2, -1, 1 + 2 ** 31):
            got = told(opening(FIRST, 1), going(), coming(segment(OTHER, FIRST + number, REFUSES)), STATE)
            self.assertEqual(got[2:], [[0], [0]])

    def test_it_does_not_answer(self):
        got = told(opening(FIRST, 1), going(), coming(segment(OTHER, FIRST + 1, BREAKS)), STATE)
        self.assertEqual(got[2:], [[0], [0]])

    def test_it_answers_and_does_not_break(self):
        got = told(opening(FIRST, 1), going(), coming(segment(OTHER, FIRST + 1, ANSWERS)), STATE)
        self.assertEqual(got[2:], [[0], [0]])

    def test_the_wanted_place_goes_round(self):
        got = told(opening(4294967295, 1), going(), coming(segment(OTHER, 0, REFUSES)), STATE)
        self.assertEqual(got[2:], [[1], [5]])

    def test_it_begins_and_breaks(self):
        for calls in (0, 1):
            for flags in (BEGINS | BREAKS, BEGINS | BREAKS | ANSWERS):
                got = told(opening(FIRST, calls), coming(segment(OTHER, 0, flags)), STATE, going())
                self.assertEqual(got[1:], [[1], [5], [0]])

    def test_nothing_else_of_it_counts(self):
        row = segment(OTHER, FIRST + 1, BEGINS | BREAKS | ANSWERS | ENDS, 700, [1, 2])
        end = end_after(opening(FIRST, 1), going())
        before = values_of(end)
        before["broken"] = True
        self.assertEqual(values_of(end_after(opening(FIRST, 1), going(), coming(row))), before)


class AfterTheBeginning(unittest.TestCase):
    def broken_by(self, number, *calls, other=OTHER, flags=BREAKS):
        got = told_met(*calls, data_in(number, [], flags, other), STATE, other=other)
        self.assertEqual(got[-2], [1])
        return got[-1] == [5]

    def test_its_place_is_the_wanted_one(self):
        for flags in (BREAKS, REFUSES, BREAKS | BEGINS, BREAKS | ENDS):
            self.assertTrue(self.broken_by(1, flags=flags))
            self.assertTrue(self.broken_by(3, data_in(1, [1, 2]), flags=flags))

    def test_its_place_is_another(self):
        for flags in (BREAKS, REFUSES, BREAKS | BEGINS, BREAKS | ENDS):
            for number in (0, 1, 2, 4, 5, 3 + 2 ** 31):
                self.assertFalse(self.broken_by(number, data_in(1, [1, 2]), flags=flags))

    def test_bytes_ahead_are_not_wanted_past(self):
        self.assertTrue(self.broken_by(1, data_in(2, [2])))
        self.assertFalse(self.broken_by(3, data_in(2, [2])))

    def test_an_end_that_came_whole_is_wanted_past(self):
        self.assertFalse(self.broken_by(2, data_in(1, [1], ENDS)))
        self.assertTrue(self.broken_by(3, data_in(1, [1], ENDS)))

    def test_places_go_round(self):
        for other in (4294967293, 4294967294, 4294967295):
            self.assertTrue(self.broken_by(3, data_in(1, [1, 2], 0, other), other=other))
            self.assertFalse(self.broken_by(2, data_in(1, [1, 2], 0, other), other=other))

    def test_it_wants_number_1_at_another_place(self):
        # That counts only while the other's beginning hasn't come.
        got = told_met(coming(segment(OTHER + 7, FIRST + 1, REFUSES)), STATE)
        self.assertEqual(got, [[1], [1]])

    def test_nothing_else_of_it_counts(self):
        calls = met() + [writing([1, 2, 3]), going()]
        for place, broken in ((OTHER + 1, True), (OTHER + 2, False), (OTHER, False)):
            row = segment(place, FIRST + 3, BREAKS | ANSWERS | ENDS | BEGINS, 700, [1, 2])
            before = values_of(end_after(*calls))
            before["broken"] = broken
            self.assertEqual(values_of(end_after(*calls, coming(row))), before)


class AboutABrokenEnd(unittest.TestCase):
    def after(self, *calls, before=()):
        """What is answered after the bytes 1 and 2 came, and the break."""
        start = list(before) + [data_in(1, [1, 2]), data_in(3, [], BREAKS)]
        return told_met(*start, *calls)[len(start):]

    def test_write_and_close(self):
        self.assertEqual(self.after(writing([1]), writing([]), CLOSE, CLOSE), [[-1], [-1], [-1], [-1]])

    def test_read(self):
        self.assertEqual(self.after(reading(1), reading(5), reading(5), reading(0)), [[1, 1], [1, 2], [-3], [-3]])

    def test_read_of_what_is_whole(self):
        got = told_met(data_in(1, [1], ENDS), data_in(3, [], BREAKS), STATE, reading(5), reading(5))
        self.assertEqual(got[2:], [[5], [1, 1], [-1]])

    def test_read_before_the_beginning_came(self):
        got = told(opening(FIRST, 1), going(), coming(segment(0, FIRST + 1, REFUSES)), reading(5), CLOSE, writing([1]))
        self.assertEqual(got[3:], [[-3], [-1], [-1]])

    def test_bytes_ahead_are_not_read(self):
        got = told_met(data_in(2, [2]), data_in(1, [], BREAKS), reading(5))
        self.assertEqual(got[2], [-3])

    def test_out(self):
        self.assertEqual(self.after(going(), going(14), before=[writing([1, 2]), CLOSE]), [[0], [0]])

    def test_out_after_a_read_that_makes_the_window_large_again(self):
        got = told_met(data_in(1, some_bytes(8192)), data_in(8193, [], BREAKS), reading(8192), going())
        self.assertEqual(got[3], [0])

    def test_in_and_tick(self):
        got = self.after(data_in(3, [3]), answer_in(2), ticking(1000000), STATE, before=[writing([1]), going()])
        self.assertEqual(got, [[0], [0], [0], [5]])

    def test_out_of_range_comes_first(self):
        self.assertEqual(self.after(going(13), going(65536), ticking(-1), ticking(1000001), reading(-1)), [[-2]] * 5)

    def test_a_later_open_is_not_broken(self):
        got = self.after(opening(FIRST, 1), STATE, writing([1]), CLOSE, reading(1))
        self.assertEqual(got, [[0], [0], [1], [0], [0]])


if __name__ == "__main__":
    unittest.main()
