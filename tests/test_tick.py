"""Point 6, and -2 for ms of tick."""

import unittest

from lines import (ANSWERS, BEGINS, BREAKS, CLOSE, ENDS, FIRST, OTHER, answer_in, coming, data_in, end_after, going,
                   met, opening, segment, sent, some_bytes, ticking, told, told_met, values_of, writing)

OUT_OF_RANGE = (-1, 1000001, -2147483648, 2147483647)


class Range(unittest.TestCase):
    def test_refused(self):
        for ms in OUT_OF_RANGE:
            self.assertEqual(told(opening(FIRST, 1), ticking(ms)), [[0], [-2]])
            self.assertEqual(told(opening(FIRST, 1), going(), ticking(ms))[2], [-2])

    def test_nothing_has_changed(self):
        calls = [opening(FIRST, 1), going(), ticking(700)]
        for ms in OUT_OF_RANGE:
            self.assertEqual(values_of(end_after(*calls, ticking(ms))), values_of(end_after(*calls)))

    def test_the_edges(self):
        got = told(opening(FIRST, 1), going(), ticking(0), ticking(1000000), ticking(0), ticking(1000000))
        self.assertEqual(got[2:], [[0], [1], [0], [1]])


class WhenItWaits(unittest.TestCase):
    def waited_after(self, *calls):
        return end_after(*calls, ticking(10), ticking(20)).waited

    def test_for_its_beginning(self):
        self.assertEqual(self.waited_after(opening(FIRST, 1)), 0)
        self.assertEqual(self.waited_after(opening(FIRST, 0)), 0)
        self.assertEqual(self.waited_after(opening(FIRST, 1), going()), 30)
        self.assertEqual(self.waited_after(opening(FIRST, 1), writing([1])), 0)
        self.assertEqual(self.waited_after(opening(FIRST, 0), coming(segment(OTHER, 0, BEGINS)), going()), 30)

    def test_for_bytes(self):
        self.assertEqual(self.waited_after(*met()), 0)
        self.assertEqual(self.waited_after(*met(), writing([1, 2])), 0)
        self.assertEqual(self.waited_after(*met(), writing([1, 2]), going(15)), 30)
        self.assertEqual(self.waited_after(*met(), writing([1, 2]), going(15), answer_in(2)), 0)
        self.assertEqual(self.waited_after(*met(), writing([1, 2]), going(), answer_in(2)), 30)
        self.assertEqual(self.waited_after(*met(), writing([1, 2]), going(), answer_in(3)), 0)

    def test_for_its_end(self):
        self.assertEqual(self.waited_after(*met(), CLOSE), 0)
        self.assertEqual(self.waited_after(*met(), CLOSE, going()), 30)
        self.assertEqual(self.waited_after(*met(), CLOSE, going(), answer_in(2)), 0)

    def test_for_place(self):
        self.assertEqual(self.waited_after(*met(window=0)), 0)
        self.assertEqual(self.waited_after(*met(window=0), writing([])), 0)
        self.assertEqual(self.waited_after(*met(window=0), CLOSE), 0)
        self.assertEqual(self.waited_after(*met(window=0), writing([1])), 30)
        self.assertEqual(self.waited_after(*met(window=1), writing([1])), 0)
        self.assertEqual(self.waited_after(*met(window=1), writing([1, 2]), going(), answer_in(2, 0)), 30)
        self.assertEqual(self.waited_after(*met(window=1), writing([1, 2]), going(), answer_in(2, 1)), 0)
        self.assertEqual(self.waited_after(*met(window=1), writing([1]), going(), answer_in(2, 0)), 0)

    def test_not_for_place_before_its_beginning_is_acked(self):
        calls = [opening(FIRST, 0), writing([1, 2]), coming(segment(OTHER, 0, BEGINS, 0))]
        self.assertEqual(self.waited_after(*calls), 0)
        self.assertEqual(self.waited_after(opening(FIRST, 1), writing([1, 2])), 0)

    def test_answers_are_not_waited_for(self):
        self.assertEqual(self.waited_after(*met(), data_in(1, [1])), 0)
        self.assertEqual(self.waited_after(*met(), data_in(1, [1]), going()), 0)

    def test_what_it_waited_is_forgotten_when_there_is_nothing_to_wait_for(self):
        calls = met(window=0) + [writing([1]), ticking(600)]
        self.assertEqual(end_after(*calls).waited, 600)
        calls.append(answer_in(1, 5))
        self.assertEqual(end_after(*calls).waited, 600)
        calls.append(ticking(500))
        end = end_after(*calls)
        self.assertEqual((end.waited, end.patience, end.probe), (0, 1000, False))
        self.assertEqual(end_after(*calls, going(), ticking(500)).waited, 500)

    def test_a_long_tick_with_nothing_to_wait_for(self):
        self.assertEqual(told(opening(FIRST, 0), ticking(1000000)), [[0], [0]])
        self.assertEqual(told(opening(FIRST, 1), ticking(1000000)), [[0], [0]])
        self.assertEqual(told_met(ticking(1000000)), [[0]])


class WhenPatienceEnds(unittest.TestCase):
    def test_just_then(self):
        self.assertEqual(told_met(writing([1]), going(), ticking(999), ticking(0), ticking(1), ticking(0))[2:],
                         [[0], [0], [1], [0]])
        self.assertEqual(told_met(writing([1]), going(), ticking(1000))[2], [1])
        self.assertEqual(told_met(writing([1]), going(), ticking(400), ticking(400), ticking(400))[2:],
                         [[0], [0], [1]])

    def test_what_changes(self):
        calls = met() + [writing(some_bytes(600)), going(), going(), answer_in(100), ticking(300)]
        expected = values_of(end_after(*calls))
        self.assertEqual((expected["waited"], expected["patience"], expected["sent"]), (300, 1000, 601))
        expected.update(next_number=100, probe=True, waited=0, patience=2000)
        self.assertEqual(values_of(end_after(*calls, ticking(5000))), expected)

    def test_what_changes_before(self):
        calls = met() + [writing(some_bytes(600)), going()]
        expected = values_of(end_after(*calls))
        expected.update(waited=999)
        self.assertEqual(values_of(end_after(*calls, ticking(999))), expected)

    def test_it_is_doubled(self):
        calls = met() + [writing([1]), going()]
        for patience in (1000, 2000, 4000, 8000, 16000, 32000, 60000, 60000, 60000):
            self.assertEqual(told(*calls, ticking(patience - 1))[-1], [0])
            self.assertEqual(told(*calls, ticking(patience - 1), ticking(1))[-1], [1])
            calls.append(ticking(patience))
            self.assertEqual(told(*calls)[-1], [1])
        self.assertEqual(end_after(*calls).patience, 60000)

    def test_more_time_than_patience_is_not_kept(self):
        got = told_met(writing([1]), going(), ticking(2999), ticking(1999), ticking(1))
        self.assertEqual(got[2:], [[1], [0], [1]])

    def test_back_to_1000(self):
        calls = met() + [writing([1, 2]), going(), ticking(1000), ticking(2000), answer_in(2), going()]
        self.assertEqual(told(*calls, ticking(999))[-1], [0])
        self.assertEqual(told(*calls, ticking(1000))[-1], [1])

    def test_not_back_without_an_answer_that_grows(self):
        calls = met() + [writing([1, 2]), going(), ticking(1000), answer_in(1), data_in(1, [5]), going()]
        self.assertEqual(told(*calls, ticking(1999))[-1], [0])
        self.assertEqual(told(*calls, ticking(2000))[-1], [1])

    def test_not_back_when_there_is_nothing_to_wait_for(self):
        calls = met(window=0) + [writing([1]), ticking(1000), answer_in(1, 5), ticking(0), going()]
        self.assertEqual(told(*calls, ticking(1999))[-1], [0])
        self.assertEqual(told(*calls, ticking(2000))[-1], [1])


class WhatIsSentAgain(unittest.TestCase):
    def test_its_beginning(self):
        got = told(opening(FIRST, 1), going(), ticking(1000), going(), ticking(2000), going(), going())
        self.assertEqual([sent(got[k]) for k in (1, 3, 5, 6)], [(FIRST, 0, BEGINS, 8192, [])] * 3 + [None])

    def test_bytes_that_are_not_acked(self):
        row = some_bytes(1000)
        got = told_met(writing(row), going(), going(), answer_in(301), ticking(1000), going(), going(), going())
        self.assertEqual(sent(got[5]), (FIRST + 301, OTHER + 1, ANSWERS, 8192, row[300:836]))
        self.assertEqual(sent(got[6]), (FIRST + 837, OTHER + 1, ANSWERS, 8192, row[836:]))
        self.assertEqual(got[7], [0])

    def test_with_what_was_written_since(self):
        got = told_met(writing([1, 2]), going(), writing([3]), CLOSE, ticking(1000), going())
        self.assertEqual(sent(got[5]), (FIRST + 1, OTHER + 1, ANSWERS | ENDS, 8192, [1, 2, 3]))

    def test_its_end(self):
        got = told_met(CLOSE, going(), ticking(1000), going(), going())
        self.assertEqual([sent(got[k]) for k in (1, 3, 4)],
                         [(FIRST + 1, OTHER + 1, ANSWERS | ENDS, 8192, [])] * 2 + [None])

    def test_nothing_before_patience_ends(self):
        self.assertEqual(told_met(writing([1]), going(), ticking(999), going())[3], [0])

    def test_a_probe_while_there_is_no_place(self):
        got = told_met(writing([1, 2]), ticking(999), going(), ticking(1), going(), going(), window=0)
        self.assertEqual([got[1], got[2], got[3], got[5]], [[0], [0], [1], [0]])
        self.assertEqual(sent(got[4]), (FIRST + 1, OTHER + 1, ANSWERS, 8192, [1]))


class ABrokenEnd(unittest.TestCase):
    def test_nothing_changes(self):
        calls = met() + [writing([1, 2]), going(), ticking(300), data_in(1, [], BREAKS)]
        before = values_of(end_after(*calls))
        self.assertEqual((before["broken"], before["waited"]), (True, 300))
        for ms in (0, 1, 700, 1000000):
            self.assertEqual(told(*calls, ticking(ms))[-1], [0])
            self.assertEqual(values_of(end_after(*calls, ticking(ms))), before)

    def test_waited_is_not_set_to_0_either(self):
        calls = met(window=0) + [writing([1]), ticking(300), answer_in(1, 5), data_in(1, [], BREAKS), ticking(5)]
        self.assertEqual(end_after(*calls).waited, 300)


if __name__ == "__main__":
    unittest.main()
