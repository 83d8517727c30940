"""Two ends that are handed each other's segments: what's read at one is what was written at the other."""

import random
import unittest

from lines import (BEGINS, CLOSE, STATE, coming, going, opening, reading, sent, some_bytes, ticking, told, with_sum,
                   writing)
from oneend.ends import End
from oneend.segments import answer_call, split_calls


class ThroughAnswers:
    """An end that is asked through the whole list of its calls each time."""

    def __init__(self, first, calls):
        self.calls = [opening(first, calls)]

    def ask(self, call):
        self.calls.append(call)
        return told(*self.calls)[-1]


class Kept:
    """An end that is kept, for lines of more calls than a list may have."""

    def __init__(self, first, calls):
        self.end = End(first, calls == 1)

    def ask(self, call):
        (kind, handed), = split_calls(call)
        return answer_call(self.end, kind, handed)


class Side:
    """One end, what is still to be written there, and what was read."""

    def __init__(self, end, row):
        self.end = end
        self.left = list(row)
        self.closed = False
        self.read = []
        self.told_the_end = False

    def write(self, most):
        taken = self.end.ask(writing(self.left[:most]))[0]
        self.left = self.left[taken:]
        if not self.left:
            self.closed = True
            self.end.ask(CLOSE)

    def take(self, most):
        answer = self.end.ask(reading(most))
        self.told_the_end = answer == [-1]
        self.read.extend(answer[1:])

    def segments(self, most):
        """All that is to be sent now, with right sums."""
        rows = []
        answer = self.end.ask(going(most))
        while answer != [0]:
            rows.append(with_sum(answer[1:-1]))
            answer = self.end.ask(going(most))
        return rows

    def done(self):
        return self.closed and self.told_the_end and self.end.ask(STATE) == [4]


class Net:
    """Loses, doubles, delays and disorders, as chance has it."""

    def __init__(self, seed, lost, doubled, delayed):
        self.chance = random.Random(seed)
        self.lost = lost
        self.doubled = doubled
        self.delayed = delayed
        self.under_way = [[], []]

    def send(self, to, row):
        if self.chance.random() < self.lost:
            return
        self.under_way[to].append(row)
        if self.chance.random() < self.doubled:
            self.under_way[to].append(row)

    def arrivals(self, to):
        """The rows that arrive now, in any order."""
        if self.delayed:
            self.chance.shuffle(self.under_way[to])
        now = []
        later = []
        for row in self.under_way[to]:
            (later if self.chance.random() < self.delayed else now).append(row)
        self.under_way[to] = later
        return now


class TwoEnds(unittest.TestCase):
    def talk(self, sides, rows, net, rounds, write_most=400, read_most=700, most=65535, ms=300):
        """Goes on till both are done; what was read is right at any time."""
        for number in range(rounds):
            for k in (0, 1):
                if not sides[k].closed:
                    sides[k].write(write_most)
                for row in sides[k].segments(most):
                    net.send(1 - k, row)
            for k in (0, 1):
                for row in net.arrivals(k):
                    sides[k].end.ask(coming(row))
                sides[k].take(read_most)
                self.assertEqual(sides[k].read, rows[1 - k][:len(sides[k].read)])
                sides[k].end.ask(ticking(ms))
            if sides[0].done() and sides[1].done():
                break
        self.assertEqual([side.read for side in sides], [rows[1], rows[0]])
        self.assertEqual([side.done() for side in sides], [True, True])

    def sides(self, kind, rows, firsts=(7, 4294967290), calls=(1, 0)):
        return [Side(kind(firsts[k], calls[k]), rows[k]) for k in (0, 1)]

    def test_a_net_without_faults(self):
        rows = [some_bytes(3000), some_bytes(1500)[::-1]]
        self.talk(self.sides(ThroughAnswers, rows), rows, Net(1, 0, 0, 0), 20, 1000, 9000)

    def test_nothing_to_say(self):
        self.talk(self.sides(ThroughAnswers, [[], []]), [[], []], Net(1, 0, 0, 0), 10)

    def test_both_call(self):
        rows = [some_bytes(700), some_bytes(10)]
        self.talk(self.sides(ThroughAnswers, rows, (0, 4294967295), (1, 1)), rows, Net(1, 0, 0, 0), 10)

    def test_a_bad_net_through_answers(self):
        for seed in range(12):
            rows = [some_bytes(900), some_bytes(400)[::-1]]
            sides = self.sides(ThroughAnswers, rows, (4294967295, 4294966800))
            self.talk(sides, rows, Net(seed, 0.2, 0.2, 0.3), 60, 300, 500, ms=1000)
            for side in sides:
                # Else this would be no list that answers may be handed.
                self.assertLessEqual(len(side.end.calls), 400)

    def test_a_bad_net(self):
        for seed in range(60):
            rows = [some_bytes(3000 + 97 * seed), some_bytes(40 * seed)[::-1]]
            sides = self.sides(Kept, rows, (4294967295 - 50 * seed, 4294967290), (1, seed % 2))
            self.talk(sides, rows, Net(seed, 0.3, 0.3, 0.4), 4000)

    def test_small_segments(self):
        for seed in range(5):
            rows = [some_bytes(300), some_bytes(200)[::-1]]
            self.talk(self.sides(Kept, rows), rows, Net(seed, 0.2, 0.3, 0.5), 4000, most=15 + seed)

    def test_a_slow_reader(self):
        # The window closes, and only probes or the answer after a read open it again.
        for seed in range(5):
            rows = [some_bytes(20000), []]
            self.talk(self.sides(Kept, rows), rows, Net(seed, 0.2, 0.2, 0.2), 9000, 4000, 60)

    def test_one_that_reads_late(self):
        rows = [some_bytes(10000), []]
        sides = self.sides(Kept, rows)
        net = Net(3, 0, 0, 0)
        for number in range(40):
            for k in (0, 1):
                if not sides[k].closed:
                    sides[k].write(500)
                for row in sides[k].segments(65535):
                    net.send(1 - k, row)
                for row in net.arrivals(1 - k):
                    sides[1 - k].end.ask(coming(row))
        self.assertEqual(len(sides[1].end.end.unread), 8192)
        self.talk(sides, rows, net, 500)

    def test_a_segment_of_an_earlier_time(self):
        # Each segment comes once more when all is said.
        rows = [some_bytes(1500), some_bytes(900)]
        sides = self.sides(Kept, rows)
        net = Net(1, 0, 0, 0)
        seen = [[], []]
        send = net.send

        def remember(to, row):
            seen[to].append(row)
            send(to, row)

        net.send = remember
        self.talk(sides, rows, net, 60)
        for k in (0, 1):
            for row in seen[k]:
                self.assertEqual(sides[k].end.ask(coming(row)), [1])
            self.assertEqual(sides[k].end.ask(reading(100)), [-1])
            self.assertEqual(sides[k].end.ask(STATE), [4])

    def test_neither_calls(self):
        for end in (ThroughAnswers(1, 0), ThroughAnswers(2, 0)):
            self.assertEqual([end.ask(call) for call in (going(), ticking(5000), going())], [[0], [0], [0]])

    def test_the_first_segments_by_hand(self):
        one = ThroughAnswers(10, 1)
        other = ThroughAnswers(20, 0)
        first = one.ask(going())
        self.assertEqual(sent(first).flags, BEGINS)
        self.assertEqual(other.ask(coming(with_sum(first[1:-1]))), [1])
        self.assertEqual(one.ask(coming(with_sum(other.ask(going())[1:-1]))), [1])
        self.assertEqual((one.ask(STATE), other.ask(STATE)), ([1], [0]))
        self.assertEqual(other.ask(coming(with_sum(one.ask(going())[1:-1]))), [1])
        self.assertEqual((one.ask(STATE), other.ask(STATE)), ([1], [1]))


if __name__ == "__main__":
    unittest.main()
