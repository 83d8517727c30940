"""Point 5, and -2 for most of out."""

import unittest

from lines import (ANSWERS, BEGINS, CLOSE, ENDS, FIRST, OTHER, STATE, answer_in, coming, data_in, end_after, going, met,
                   opening, reading, segment, sent, some_bytes, ticking, told, told_met, values_of, writing)

OUT_OF_RANGE = (13, 0, -1, 65536, -2147483648, 2147483647)
ANSWER = (FIRST + 1, OTHER + 1, ANSWERS, 8192, [])


def sent_met(*calls, **values):
    """The segments that the outs among these calls answered."""
    got = told_met(*calls, **values)
    return [sent(answer) for call, answer in zip(calls, got) if call[0] == 6]


class Range(unittest.TestCase):
    def test_refused(self):
        for most in OUT_OF_RANGE:
            self.assertEqual(told(opening(FIRST, 1), going(most)), [[0], [-2]])
            self.assertEqual(told(opening(FIRST, 0), going(most)), [[0], [-2]])

    def test_nothing_has_changed(self):
        for calls in ([opening(FIRST, 1)], met() + [writing([1]), CLOSE, data_in(1, [1])]):
            for most in OUT_OF_RANGE:
                self.assertEqual(values_of(end_after(*calls, going(most))), values_of(end_after(*calls)))

    def test_the_edges(self):
        for most in (14, 15, 65534, 65535):
            got = told(opening(FIRST, 1), going(most))
            self.assertEqual(sent(got[1]), (FIRST, 0, BEGINS, 8192, []))


class Layout(unittest.TestCase):
    def test_byte_by_byte(self):
        got = told(opening(0x01020304, 1), going(), coming(segment(0x0A0B0C0D, 0x01020305, BEGINS | ANSWERS)), going(),
                   writing([7, 8, 9]), CLOSE, going())
        self.assertEqual(got[1], [14, 1, 2, 3, 4, 0, 0, 0, 0, 1, 0, 0x20, 0, 0, 0, 1])
        self.assertEqual(got[3], [14, 1, 2, 3, 5, 10, 11, 12, 14, 4, 0, 0x20, 0, 0, 0, 1])
        self.assertEqual(got[6], [17, 1, 2, 3, 5, 10, 11, 12, 14, 6, 0, 0x20, 0, 0, 0, 7, 8, 9, 1])

    def test_none_is_0_alone(self):
        self.assertEqual(told(opening(FIRST, 0), going()), [[0], [0]])


class Beginning(unittest.TestCase):
    def test_it_calls(self):
        got = told(opening(FIRST, 1), going(), going())
        self.assertEqual((sent(got[1]), got[2]), ((FIRST, 0, BEGINS, 8192, []), [0]))

    def test_it_does_not_call(self):
        got = told(opening(FIRST, 0), going(), coming(segment(OTHER, 0, BEGINS)), going(), going())
        self.assertEqual((got[1], got[4]), ([0], [0]))
        self.assertEqual(sent(got[3]), (FIRST, OTHER + 1, BEGINS | ANSWERS, 8192, []))

    def test_it_calls_and_the_other_has_begun(self):
        got = told(opening(FIRST, 1), coming(segment(OTHER, 0, BEGINS)), going(), going())
        self.assertEqual((sent(got[2]), got[3]), ((FIRST, OTHER + 1, BEGINS | ANSWERS, 8192, []), [0]))

    def test_nothing_but_it_goes_before_it_is_acked(self):
        got = told(opening(FIRST, 1), writing([1, 2]), CLOSE, going(), going(), coming(segment(OTHER, 0, BEGINS)),
                   going(), going())
        self.assertEqual(sent(got[3]), (FIRST, 0, BEGINS, 8192, []))
        self.assertEqual((got[4], got[7]), ([0], [0]))
        self.assertEqual(sent(got[6]), ANSWER)

    def test_not_with_bytes_or_an_end(self):
        for more in ([writing([1])], [CLOSE], [writing([1]), CLOSE]):
            got = told(opening(FIRST, 0), *more, coming(segment(OTHER, 0, BEGINS)), going(), going())
            self.assertEqual(sent(got[-2]), (FIRST, OTHER + 1, BEGINS | ANSWERS, 8192, []))
            self.assertEqual(got[-1], [0])

    def test_nothing_but_it_goes_before_it_is_acked_though_there_is_place(self):
        # The answer wants number 0: that acks nothing, but it tells a window.
        wants_0 = coming(segment(OTHER, FIRST, BEGINS | ANSWERS, 8192))
        for more in ([writing([1, 2])], [CLOSE], [writing([1, 2]), CLOSE]):
            got = told(opening(FIRST, 1), *more, going(), wants_0, going(), going())
            self.assertEqual((sent(got[-2]), got[-1]), (ANSWER, [0]))

    def test_again(self):
        got = told(opening(FIRST, 1), going(), ticking(1000), going(), going())
        self.assertEqual((sent(got[3]), got[4]), ((FIRST, 0, BEGINS, 8192, []), [0]))

    def test_again_with_an_answer(self):
        got = told(opening(FIRST, 1), going(), coming(segment(OTHER, 0, BEGINS)), ticking(1000), going(), going())
        self.assertEqual((sent(got[4]), got[5]), ((FIRST, OTHER + 1, BEGINS | ANSWERS, 8192, []), [0]))

    def test_the_window_before_the_other_has_begun(self):
        for first in (0, 4294967295):
            self.assertEqual(sent(told(opening(first, 1), going())[1]), (first, 0, BEGINS, 8192, []))


class Bytes(unittest.TestCase):
    def test_none(self):
        self.assertEqual(sent_met(writing([]), going()), [None])

    def test_one(self):
        self.assertEqual(sent_met(writing([7]), going(), going()),
                         [(FIRST + 1, OTHER + 1, ANSWERS, 8192, [7]), None])

    def test_at_most_536(self):
        for n in (535, 536):
            row = some_bytes(n)
            self.assertEqual([part.data for part in sent_met(writing(row), going())], [row])
            self.assertEqual(sent_met(writing(row), going(), going())[1], None)

    def test_537(self):
        row = some_bytes(537)
        self.assertEqual(sent_met(writing(row), going(), going(), going()),
                         [(FIRST + 1, OTHER + 1, ANSWERS, 8192, row[:536]),
                          (FIRST + 537, OTHER + 1, ANSWERS, 8192, row[536:]), None])

    def test_at_most_most_less_14(self):
        row = some_bytes(600)
        for most, length in ((15, 1), (16, 2), (549, 535), (550, 536), (551, 536), (65535, 536)):
            self.assertEqual(sent_met(writing(row), going(most), going()),
                             [(FIRST + 1, OTHER + 1, ANSWERS, 8192, row[:length]),
                              (FIRST + 1 + length, OTHER + 1, ANSWERS, 8192, row[length:length + 536])])

    def test_most_14_has_place_for_none(self):
        self.assertEqual(sent_met(writing([7, 8]), going(14), going()),
                         [None, (FIRST + 1, OTHER + 1, ANSWERS, 8192, [7, 8])])

    def test_most_14_and_it_owes(self):
        got = sent_met(writing([7, 8]), data_in(1, [1]), going(14), going(14), going())
        self.assertEqual(got, [(FIRST + 1, OTHER + 2, ANSWERS, 8191, []), None,
                               (FIRST + 1, OTHER + 2, ANSWERS, 8191, [7, 8])])

    def test_rows_of_several_writes(self):
        got = sent_met(writing([1, 2]), writing([3]), going(), writing([4, 5]), writing([6]), going())
        self.assertEqual([part.data for part in got], [[1, 2, 3], [4, 5, 6]])

    def test_what_was_written_before_the_beginnings(self):
        got = told(opening(FIRST, 1), writing([4, 5]), *met()[1:], going())
        self.assertEqual(sent(got[4]), (FIRST + 1, OTHER + 1, ANSWERS, 8192, [4, 5]))

    def test_places_go_round(self):
        got = sent_met(writing(some_bytes(600)), going(), going(), first=4294967295)
        self.assertEqual([part.place for part in got], [0, 536])
        got = sent_met(writing([1, 2, 3, 4]), going(16), going(16), CLOSE, going(), first=4294967293)
        self.assertEqual([part.place for part in got], [4294967294, 0, 2])

    def test_the_wanted_place_goes_round(self):
        got = sent_met(data_in(1, [1, 2], 0, 4294967293), writing([7]), going(), other=4294967293)
        self.assertEqual(got, [(FIRST + 1, 0, ANSWERS, 8190, [7])])


class TheirWindow(unittest.TestCase):
    def test_0(self):
        self.assertEqual(sent_met(writing([1, 2]), going(), window=0), [None])

    def test_smaller_than_what_is_left(self):
        row = some_bytes(900)
        for window in (1, 2, 535, 536):
            got = sent_met(writing(row), going(), going(), window=window)
            self.assertEqual(got, [(FIRST + 1, OTHER + 1, ANSWERS, 8192, row[:window]), None])
        got = sent_met(writing(row), going(), going(), going(), window=537)
        self.assertEqual([part and part.data for part in got], [row[:536], row[536:537], None])

    def test_just_what_is_left_and_larger(self):
        for window in (5, 6, 65535):
            got = sent_met(writing([1, 2, 3, 4, 5]), going(), going(), window=window)
            self.assertEqual(got, [(FIRST + 1, OTHER + 1, ANSWERS, 8192, [1, 2, 3, 4, 5]), None])

    def test_it_counts_from_acked(self):
        row = some_bytes(900)
        got = sent_met(writing(row), going(), answer_in(101, 100), going(), answer_in(101, 500), going(), going(),
                       answer_in(537, 65), going(), window=100)
        self.assertEqual([part and part.data for part in got],
                         [row[:100], row[100:200], row[200:600], None, row[600:601]])

    def test_it_has_shrunk(self):
        row = some_bytes(900)
        got = sent_met(writing(row), going(), answer_in(11, 20), going(), answer_in(11, 526), going(),
                       answer_in(11, 527), going())
        self.assertEqual([part and part.data for part in got], [row[:536], None, None, row[536:537]])

    def test_what_is_sent_again_keeps_to_it(self):
        row = some_bytes(900)
        got = sent_met(writing(row), going(), answer_in(11, 20), ticking(1000), going(), going())
        self.assertEqual(got, [(FIRST + 1, OTHER + 1, ANSWERS, 8192, row[:536]),
                               (FIRST + 11, OTHER + 1, ANSWERS, 8192, row[10:30]), None])

    def test_the_beginning_told_it_nothing(self):
        # Its beginning is acked by a later segment, so theirs is that one's window.
        got = told(opening(FIRST, 0), writing([1, 2, 3]), coming(segment(OTHER, 0, BEGINS, 9)), going(),
                   answer_in(1, 2), going())
        self.assertEqual(sent(got[5]).data, [1, 2])


class Probe(unittest.TestCase):
    def test_one_byte_when_it_is_due(self):
        got = sent_met(writing([1, 2, 3]), going(), ticking(1000), going(), going(), window=0)
        self.assertEqual(got, [None, (FIRST + 1, OTHER + 1, ANSWERS, 8192, [1]), None])

    def test_not_when_most_has_no_place(self):
        got = sent_met(writing([1, 2, 3]), ticking(1000), going(14), going(15), window=0)
        self.assertEqual([part and part.data for part in got], [None, [1]])

    def test_an_answer_does_not_end_it(self):
        got = sent_met(writing([1, 2, 3]), ticking(1000), data_in(1, [7]), going(14), going(), going(), window=0)
        self.assertEqual([part and part.data for part in got], [[], [1], None])

    def test_its_beginning_does_not_end_it(self):
        got = told(opening(FIRST, 1), writing([1, 2]), going(), ticking(1000), going(), *met(window=0)[2:3], going())
        self.assertEqual((sent(got[4]).flags, sent(got[6]).data), (BEGINS, [1]))

    def test_the_same_byte_again(self):
        got = sent_met(writing([1, 2, 3]), ticking(1000), going(), ticking(2000), going(), going(), window=0)
        self.assertEqual([part and (part.place, part.data) for part in got], [(FIRST + 1, [1])] * 2 + [None])

    def test_the_next_byte_once_it_is_acked(self):
        got = sent_met(writing([1, 2, 3]), ticking(1000), going(), answer_in(2, 0), going(), ticking(1000), going(),
                       answer_in(3, 5), going(), window=0)
        self.assertEqual([part and part.data for part in got], [[1], None, [2], [3]])

    def test_not_more_when_their_window_is_not_0(self):
        got = sent_met(writing([1, 2, 3]), going(), ticking(1000), going(), going(), window=1)
        self.assertEqual([part and part.data for part in got], [[1], [1], None])

    def test_it_ends_with_any_bytes(self):
        got = sent_met(writing([1, 2, 3]), ticking(1000), answer_in(1, 1), going(), answer_in(1, 0), going(),
                       answer_in(2, 0), going(), window=0)
        self.assertEqual([part and part.data for part in got], [[1], None, None])

    def test_it_ends_with_an_end_alone(self):
        end = end_after(*met(), CLOSE, going(), ticking(1000))
        self.assertTrue(end.probe)
        end = end_after(*met(), CLOSE, going(), ticking(1000), going())
        self.assertFalse(end.probe)

    def test_the_last_byte_and_the_end(self):
        got = sent_met(writing([1]), CLOSE, going(), ticking(1000), going(), going(), window=0)
        self.assertEqual(got, [None, (FIRST + 1, OTHER + 1, ANSWERS | ENDS, 8192, [1]), None])


class TheEnd(unittest.TestCase):
    def test_with_the_bytes(self):
        got = sent_met(writing([1, 2]), CLOSE, going(), going())
        self.assertEqual(got, [(FIRST + 1, OTHER + 1, ANSWERS | ENDS, 8192, [1, 2]), None])

    def test_alone_when_all_are_sent(self):
        got = sent_met(writing([1, 2]), going(), CLOSE, going(), going())
        self.assertEqual(got[1:], [(FIRST + 3, OTHER + 1, ANSWERS | ENDS, 8192, []), None])

    def test_alone_when_there_are_no_bytes(self):
        got = sent_met(CLOSE, going(14), going())
        self.assertEqual(got, [(FIRST + 1, OTHER + 1, ANSWERS | ENDS, 8192, []), None])

    def test_with_the_last_bytes_alone(self):
        row = some_bytes(537)
        got = sent_met(writing(row), CLOSE, going(), going(), going())
        self.assertEqual(got, [(FIRST + 1, OTHER + 1, ANSWERS, 8192, row[:536]),
                               (FIRST + 537, OTHER + 1, ANSWERS | ENDS, 8192, row[536:]), None])

    def test_with_536_bytes(self):
        got = sent_met(writing(some_bytes(536)), CLOSE, going(550), going())
        self.assertEqual(([part and part.flags for part in got], len(got[0].data)), ([ANSWERS | ENDS, None], 536))

    def test_not_before_bytes_that_most_has_no_place_for(self):
        got = sent_met(writing([1, 2]), CLOSE, going(14), going(15), going(15))
        self.assertEqual([part and (part.flags, part.data) for part in got],
                         [None, (ANSWERS, [1]), (ANSWERS | ENDS, [2])])

    def test_not_before_bytes_that_they_have_no_place_for(self):
        got = sent_met(writing([1, 2]), CLOSE, going(), going(), answer_in(2, 1), going(), window=1)
        self.assertEqual([part and (part.flags, part.data) for part in got],
                         [(ANSWERS, [1]), None, (ANSWERS | ENDS, [2])])

    def test_it_needs_no_place(self):
        self.assertEqual([part.flags for part in sent_met(CLOSE, going(), window=0)], [ANSWERS | ENDS])
        got = sent_met(writing([1, 2]), CLOSE, going(), window=2)
        self.assertEqual([(part.flags, part.data) for part in got], [(ANSWERS | ENDS, [1, 2])])
        got = sent_met(writing([1, 2]), going(), CLOSE, going(), window=2)
        self.assertEqual(got[1], (FIRST + 3, OTHER + 1, ANSWERS | ENDS, 8192, []))

    def test_again(self):
        got = sent_met(writing([1, 2]), CLOSE, going(), ticking(1000), going(), answer_in(3), ticking(2000), going(),
                       answer_in(4), ticking(60000), going())
        self.assertEqual([part and (part.place, part.flags, part.data) for part in got],
                         [(FIRST + 1, ANSWERS | ENDS, [1, 2])] * 2 + [(FIRST + 3, ANSWERS | ENDS, []), None])

    def test_alone_again(self):
        got = sent_met(writing([1, 2]), CLOSE, going(), answer_in(3), ticking(1000), going(), going())
        self.assertEqual([part and (part.place, part.flags, part.data) for part in got],
                         [(FIRST + 1, ANSWERS | ENDS, [1, 2]), (FIRST + 3, ANSWERS | ENDS, []), None])

    def test_answers_after_it_have_the_place_behind_it(self):
        got = sent_met(writing([1, 2]), CLOSE, going(), data_in(1, [9]), going())
        self.assertEqual(got[1], (FIRST + 4, OTHER + 2, ANSWERS, 8191, []))

    def test_none_when_it_is_not_closed(self):
        self.assertEqual(sent_met(writing([1]), going(), going())[1], None)


class TheAnswer(unittest.TestCase):
    def test_it_owes_one(self):
        got = sent_met(data_in(1, [1, 2]), going(14), going())
        self.assertEqual(got, [(FIRST + 1, OTHER + 3, ANSWERS, 8190, []), None])

    def test_it_owes_none(self):
        self.assertEqual(sent_met(going()), [None])
        self.assertEqual(sent_met(answer_in(1), going()), [None])

    def test_bytes_answer_too(self):
        got = sent_met(data_in(1, [1, 2]), writing([7]), going(), going())
        self.assertEqual(got, [(FIRST + 1, OTHER + 3, ANSWERS, 8190, [7]), None])

    def test_an_end_answers_too(self):
        got = sent_met(data_in(1, [1, 2]), CLOSE, going(), going())
        self.assertEqual(got, [(FIRST + 1, OTHER + 3, ANSWERS | ENDS, 8190, []), None])

    def test_its_beginning_without_an_answer_and_then_one(self):
        got = told(opening(FIRST, 1), going(), coming(segment(OTHER, 0, BEGINS)), going(), going())
        self.assertEqual((sent(got[3]), got[4]), (ANSWER, [0]))

    def test_its_place_is_behind_what_was_sent(self):
        got = sent_met(writing([7, 8]), going(), data_in(1, [1]), going())
        self.assertEqual(got[1], (FIRST + 3, OTHER + 2, ANSWERS, 8191, []))

    def test_its_place_after_a_tick_is_acked(self):
        got = sent_met(writing([7, 8]), going(), ticking(1000), data_in(1, [1]), going(14))
        self.assertEqual(got[1], (FIRST + 1, OTHER + 2, ANSWERS, 8191, []))

    def test_the_whole_bytes_and_the_end_are_wanted_past(self):
        got = sent_met(data_in(1, [1, 2], ENDS), going())
        self.assertEqual(got, [(FIRST + 1, OTHER + 4, ANSWERS, 8190, [])])
        got = sent_met(data_in(2, [2], ENDS), going())
        self.assertEqual(got, [ANSWER])

    def test_the_window_after_bytes_came_and_were_read(self):
        got = sent_met(data_in(1, some_bytes(8192)), going(), reading(92), data_in(1, [1]), going(), reading(8192),
                       going(), data_in(1, [1]), going())
        self.assertEqual([part and part.window for part in got], [0, 92, 8192, 8192])


class WhatStays(unittest.TestCase):
    def test_none_changes_nothing(self):
        for calls in ([opening(FIRST, 0)], [opening(FIRST, 1), going()], met(), met(window=0) + [writing([1, 2])]):
            before = values_of(end_after(*calls))
            self.assertEqual(values_of(end_after(*calls, going())), before)

    def test_what_it_changes(self):
        calls = met() + [writing([1, 2, 3]), data_in(1, [5]), ticking(1000)]
        expected = values_of(end_after(*calls))
        expected.update(next_number=3, sent=3, owes=False, probe=False)
        self.assertEqual(values_of(end_after(*calls, going(16))), expected)

    def test_an_end_changes_next_by_1_more(self):
        end = end_after(*met(), writing([1, 2, 3]), CLOSE, going())
        self.assertEqual((end.next_number, end.sent), (5, 5))

    def test_sent_does_not_shrink(self):
        end = end_after(*met(), writing([1, 2, 3]), going(), ticking(1000), going(15))
        self.assertEqual((end.acked, end.next_number, end.sent), (1, 2, 4))

    def test_its_state(self):
        self.assertEqual(told(opening(FIRST, 1), going(), STATE)[2], [0])


if __name__ == "__main__":
    unittest.main()
