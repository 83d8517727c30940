"""How the tests write calls and segments, and take answers apart."""

import collections
import copy
from unittest import mock

from oneend.ends import End
from oneend.segments import answers

CLOSE = [3]
STATE = [8]

BEGINS = 1
ENDS = 2
ANSWERS = 4
BREAKS = 8

FIRST = 100
OTHER = 5000

Sent = collections.namedtuple("Sent", "place wanted flags window data")


def opening(first=0, calls=1):
    return [1, first, calls]


def writing(row):
    return [2, len(row)] + row


def reading(most):
    return [4, most]


def coming(segment):
    return [5, len(segment)] + segment


def going(most=65535):
    return [6, most]


def ticking(ms):
    return [7, ms]


def line(*calls):
    return [number for call in calls for number in call]


def told(*calls):
    """What is answered to each call, a list each."""
    numbers = answers(line(*calls))
    parts = []
    at = 0
    while at < len(numbers):
        stop = at + 1 + numbers[at]
        parts.append(numbers[at + 1:stop])
        at = stop
    return parts


def told_about(end, *calls):
    """The same about an end that is in some state already."""
    with mock.patch("oneend.segments.End", return_value=end):
        return told(opening(), *calls)[1:]


def end_with(**values):
    """An end some of whose values are others than at first."""
    end = End(0, True)
    for name, value in values.items():
        if not hasattr(end, name):
            raise AttributeError(name)
        setattr(end, name, value)
    return end


def end_that_got(row, **values):
    """An end to which these bytes came in order, none of them read."""
    return end_with(unread=list(row), came=len(row), **values)


def end_after(*calls):
    """The end that the last open of these calls made, as the calls leave it."""
    made = []

    def make(first, calling):
        made.append(End(first, calling))
        return made[-1]

    with mock.patch("oneend.segments.End", make):
        answers(line(*calls))
    return made[-1]


def values_of(end):
    return copy.deepcopy(vars(end))


def some_bytes(n):
    return [(k * 7 + k // 256) % 256 for k in range(n)]


def with_sum(row):
    """The row with a right sum at bytes 12 and 13."""
    blank = row[:12] + [0, 0] + row[14:]
    total = sum(blank[0::2]) * 256 + sum(blank[1::2])
    rest = 65535 - total % 65535
    return row[:12] + [rest // 256, rest % 256] + row[14:]


def segment(place, wanted=0, flags=0, window=8192, data=()):
    round_numbers = [number % 2 ** 32 for number in (place, wanted)]
    head = [byte for number in round_numbers for byte in number.to_bytes(4, "big")]
    return with_sum(head + [flags, 0] + list(window.to_bytes(2, "big")) + [0, 0] + list(data))


def sent(answer):
    """The parts of the segment that an out answered; None for 0 alone."""
    if answer == [0]:
        return None
    length, row = answer[0], answer[1:-1]
    if answer[-1] != 1 or length != len(row) or length < 14:
        raise AssertionError(f"no segment: {answer}")
    if row[9] != 0 or row[12:14] != [0, 0]:
        raise AssertionError(f"not laid out as it should be: {row[:14]}")
    head = bytes(row[:12])
    return Sent(int.from_bytes(head[:4], "big"), int.from_bytes(head[4:8], "big"), head[8],
                int.from_bytes(head[10:12], "big"), row[14:])


def met(first=FIRST, other=OTHER, window=8192):
    """Calls after which each has the other's beginning, acked, and the end owes nothing."""
    return [opening(first, 1), going(), coming(segment(other, first + 1, BEGINS | ANSWERS, window)), going()]


def told_met(*calls, **values):
    """What is answered to the calls about an end that has met the other one."""
    before = met(**values)
    return told(*before, *calls)[len(before):]


def data_in(number, data, flags=0, other=OTHER):
    """The call in, with bytes of the other end from this number on, and no answer."""
    return coming(segment(other + number, 0, flags, 0, data))


def answer_in(number, window=8192, first=FIRST, other=OTHER):
    """The call in, with an answer that wants this number, and nothing else."""
    return coming(segment(other + 1, first + number, ANSWERS, window))
