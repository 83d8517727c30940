"""Point 4, and "Segments": what is answered 0 and changes nothing."""

import unittest

from lines import (ANSWERS, BEGINS, BREAKS, CLOSE, ENDS, FIRST, OTHER, coming, data_in, end_after, going, met,
                   opening, reading, segment, some_bytes, told, told_about, told_met, values_of, with_sum, writing)

GOOD = segment(OTHER + 1, FIRST + 1, ANSWERS, 4000, [1, 2, 3, 4])


def ends():
    """Ends in several states, each new."""
    busy = met() + [writing(some_bytes(700)), going(), data_in(1, [1, 2]), data_in(9, [9]), CLOSE]
    return [end_after(opening(FIRST, 1)), end_after(opening(FIRST, 0)), end_after(opening(FIRST, 1), going()),
            end_after(*met()), end_after(*busy)]


class Refusing(unittest.TestCase):
    def refused(self, end, row):
        before = values_of(end)
        self.assertEqual(told_about(end, coming(row)), [[0]])
        self.assertEqual(values_of(end), before)

    def refused_by_all(self, row):
        for end in ends():
            self.refused(end, row)


class NoSegment(Refusing):
    def test_the_good_one_is_taken(self):
        self.assertEqual(told_met(coming(GOOD), reading(9)), [[1], [4, 1, 2, 3, 4]])

    def test_fewer_than_14_bytes(self):
        for length in range(14):
            self.refused_by_all(GOOD[:length])

    def test_fewer_whose_sum_is_right(self):
        # The words 0001, 0008, 0000, 0000 and 0100, and what makes FFFFH of them in one or two words more.
        self.refused_by_all([0, 1, 0, 8, 0, 0, 0, 0, 1, 0, 254, 246])
        self.refused_by_all([0, 1, 0, 8, 0, 0, 0, 0, 1, 0, 32, 246, 222])

    def test_14_bytes_are_enough(self):
        row = segment(OTHER, FIRST + 1, BEGINS | ANSWERS)
        self.assertEqual(len(row), 14)
        self.assertEqual(told(opening(FIRST, 1), going(), coming(row))[2], [1])

    def test_the_byte_0_is_another(self):
        for value in (1, 2, 128, 255):
            for flags in (BEGINS, BEGINS | ANSWERS, ANSWERS, BREAKS | ANSWERS):
                row = segment(OTHER, FIRST + 1, flags)
                row[9] = value
                self.refused_by_all(with_sum(row))


class TheSum(Refusing):
    def test_any_other_byte_makes_it_wrong(self):
        for row in (GOOD, segment(OTHER, FIRST + 1, BEGINS | ANSWERS, 8192, [5, 6, 7])):
            for at in range(len(row)):
                for change in (1, 128, 255):
                    wrong = list(row)
                    wrong[at] = (wrong[at] + change) % 256
                    self.refused_by_all(wrong)

    def test_a_sum_of_0_alone(self):
        row = list(GOOD)
        row[12:14] = [0, 0]
        self.refused_by_all(row)

    def test_its_bytes_the_other_way_round(self):
        row = list(GOOD)
        self.assertNotEqual(row[12], row[13])
        row[12:14] = [row[13], row[12]]
        self.refused_by_all(row)

    def test_no_words_but_0_are_not_ffff(self):
        for other in (0, 5):
            self.refused(end_after(*met(other=other)), [0] * 14)
        self.assertEqual(told_met(coming([0] * 12 + [255, 255])), [[1]])

    def test_sums_of_0_and_of_ffff_are_both_right(self):
        # The other words come to FFFFH by themselves.
        row = [0, 0, 0, 1, 0, 0, 0, 0, 0, 0, 255, 254]
        for both in ([0, 0], [255, 255]):
            self.assertEqual(told_met(coming(row + both), other=0), [[1]])

    def test_what_is_carried_out_is_added_in_again(self):
        row = segment(OTHER + 1, 2 ** 32 - 1, 0, 65535, [255] * 28000)
        self.assertEqual(told_met(coming(row)), [[1]])
        row[13] -= 1 if row[13] > 0 else -1
        self.assertEqual(told_met(coming(row)), [[0]])

    def test_by_hand(self):
        # 0001 + 0008 + 0000 + 0000 + 0100 + 2000 and FFFF less these.
        row = [0, 1, 0, 8, 0, 0, 0, 0, 1, 0, 32, 0, 222, 246]
        self.assertEqual(told(opening(0, 0), coming(row)), [[0], [1]])
        row[13] = 245
        self.assertEqual(told(opening(0, 0), coming(row)), [[0], [0]])


class OddLength(Refusing):
    def test_a_zero_byte_is_behind(self):
        # With 5 in the high byte of a last word the sum is DEF6H less 0500H.
        row = [0, 1, 0, 8, 0, 0, 0, 0, 1, 0, 32, 0, 217, 246, 5]
        self.assertEqual(told(opening(0, 0), coming(row), reading(3)), [[0], [1], [1, 5]])

    def test_not_before(self):
        row = [0, 1, 0, 8, 0, 0, 0, 0, 1, 0, 32, 0, 222, 241, 5]
        self.refused_by_all(row)

    def test_every_odd_length(self):
        for length in (1, 3, 535, 537, 8191):
            row = segment(OTHER + 1, 0, 0, 0, some_bytes(length))
            self.assertEqual(told_met(coming(row), reading(9000)), [[1], [length] + some_bytes(length)])

    def test_wrong_in_its_last_byte(self):
        row = segment(OTHER + 1, FIRST + 1, ANSWERS, 8192, [1, 2, 3])
        row[-1] = 4
        self.refused_by_all(row)


class BeforeTheBeginning(Refusing):
    def setUp(self):
        self.ends = [lambda: end_after(opening(FIRST, 0)), lambda: end_after(opening(FIRST, 1)),
                     lambda: end_after(opening(FIRST, 1), going()),
                     lambda: end_after(opening(FIRST, 0), writing([1]), CLOSE)]

    def test_what_does_not_begin(self):
        for make in self.ends:
            for flags in (0, ENDS, ANSWERS, ENDS | ANSWERS, BREAKS, BREAKS | ENDS):
                for data in ([], [1, 2, 3]):
                    for number in (0, 1, 2):
                        self.refused(make(), segment(OTHER, FIRST + number, flags, 8192, data))

    def test_what_begins_is_taken(self):
        for make in self.ends:
            self.assertEqual(told_about(make(), coming(segment(OTHER, 0, BEGINS))), [[1]])

    def test_after_the_beginning_it_is_taken(self):
        for flags in (0, ENDS, ANSWERS, ENDS | ANSWERS, BREAKS, BREAKS | ENDS):
            self.assertEqual(told_met(coming(segment(OTHER + 9, FIRST + 1, flags))), [[1]])

    def test_a_later_open_has_nothing_of_the_beginning(self):
        self.assertEqual(told_met(opening(FIRST, 1), data_in(1, [1]), reading(1)), [[0], [0], [0]])


class AnEndThatIsBroken(Refusing):
    def test_whatever_comes(self):
        for flags in (0, BEGINS, BEGINS | ANSWERS, ANSWERS, ENDS, BREAKS, BREAKS | ANSWERS):
            end = end_after(*met(), data_in(1, [1, 2]), data_in(3, [], BREAKS))
            self.assertTrue(end.broken)
            for number in (0, 1, 3, 4):
                self.refused(end, segment(OTHER + number, FIRST + 1, flags, 8192, [7]))


class OtherFlags(unittest.TestCase):
    def test_bits_that_mean_nothing_change_nothing(self):
        for flags in (16, 32, 64, 128, 240):
            got = told_met(data_in(1, [4, 5], flags), reading(9), data_in(3, [6], flags | ENDS), reading(9), reading(9))
            self.assertEqual(got, [[1], [2, 4, 5], [1], [1, 6], [-1]])


if __name__ == "__main__":
    unittest.main()
