"""Point 7."""

import unittest

from lines import (ANSWERS, BEGINS, BREAKS, CLOSE, ENDS, FIRST, OTHER, STATE, answer_in, coming, data_in, end_after,
                   going, met, opening, reading, segment, ticking, told, told_met, values_of, writing)


def state_after(*calls):
    return told(*calls, STATE)[-1]


class State(unittest.TestCase):
    def test_0_at_first(self):
        for calls in (0, 1):
            self.assertEqual(state_after(opening(FIRST, calls)), [0])

    def test_0_while_the_other_has_not_begun(self):
        self.assertEqual(state_after(opening(FIRST, 1), going(), ticking(1000), going(), writing([1]), CLOSE), [0])

    def test_0_while_its_beginning_is_not_acked(self):
        begun = [opening(FIRST, 0), coming(segment(OTHER, 0, BEGINS))]
        self.assertEqual(state_after(*begun), [0])
        self.assertEqual(state_after(*begun, going()), [0])
        self.assertEqual(state_after(*begun, going(), data_in(1, [1], ENDS)), [0])
        self.assertEqual(state_after(*begun, going(), answer_in(0)), [0])

    def test_1(self):
        self.assertEqual(state_after(*met()), [1])
        begun = [opening(FIRST, 0), coming(segment(OTHER, 0, BEGINS)), going()]
        self.assertEqual(state_after(*begun, answer_in(1)), [1])
        self.assertEqual(state_after(*met(), writing([1]), going(), answer_in(2), data_in(1, [1])), [1])

    def test_1_while_its_end_is_not_acked(self):
        closed = met() + [writing([1]), CLOSE]
        self.assertEqual(state_after(*closed), [1])
        self.assertEqual(state_after(*closed, going()), [1])
        self.assertEqual(state_after(*closed, going(), answer_in(2)), [1])

    def test_1_while_bytes_ahead_of_the_end_are_missing(self):
        self.assertEqual(state_after(*met(), data_in(2, [2], ENDS)), [1])

    def test_2(self):
        self.assertEqual(state_after(*met(), data_in(1, [], ENDS)), [2])
        self.assertEqual(state_after(*met(), data_in(1, [1], ENDS)), [2])
        self.assertEqual(state_after(*met(), data_in(1, [1], ENDS), reading(5), writing([1]), CLOSE, going()), [2])

    def test_3(self):
        self.assertEqual(state_after(*met(), CLOSE, going(), answer_in(2)), [3])
        self.assertEqual(state_after(*met(), writing([1]), CLOSE, going(), answer_in(3)), [3])

    def test_4(self):
        self.assertEqual(state_after(*met(), CLOSE, going(), answer_in(2), data_in(1, [1], ENDS)), [4])
        row = segment(OTHER + 1, FIRST + 2, ANSWERS | ENDS)
        self.assertEqual(state_after(*met(), CLOSE, going(), coming(row)), [4])

    def test_5(self):
        self.assertEqual(state_after(*met(), data_in(1, [], BREAKS)), [5])
        whole = met() + [CLOSE, going(), answer_in(2), data_in(1, [1], ENDS)]
        self.assertEqual(state_after(*whole, data_in(3, [], BREAKS)), [5])
        refused = coming(segment(0, FIRST + 1, BREAKS | ANSWERS))
        self.assertEqual(state_after(opening(FIRST, 1), going(), refused), [5])

    def test_asking_changes_nothing(self):
        calls = met() + [writing([1, 2]), going(), data_in(1, [1]), ticking(5)]
        self.assertEqual(values_of(end_after(*calls, STATE, STATE)), values_of(end_after(*calls)))
        self.assertEqual(told_met(STATE, STATE), [[1], [1]])

    def test_it_answers_one_number(self):
        self.assertEqual(told(opening(), STATE, opening(), STATE), [[0], [0], [0], [0]])


if __name__ == "__main__":
    unittest.main()
