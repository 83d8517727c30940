"""How the tests write calls, and take answers apart."""

from unittest import mock

from oneend.ends import End
from oneend.segments import answers

CLOSE = [3]


def opening(first=0, calls=1):
    return [1, first, calls]


def writing(row):
    return [2, len(row)] + row


def reading(most):
    return [4, most]


def line(*calls):
    return [number for call in calls for number in call]


def told(*calls):
    """What is answered to each call, a list each."""
    numbers = answers(line(*calls))
    parts = []
    at = 0
    while at < len(numbers):
        stop = at + 1 + numbers[at]
        parts.append(numbers[at + 1:stop])
        at = stop
    return parts


def told_about(end, *calls):
    """The same about an end that is in some state already."""
    with mock.patch("oneend.segments.End", return_value=end):
        return told(opening(), *calls)[1:]


def end_with(**values):
    """An end some of whose values are others than at first."""
    end = End(0, True)
    for name, value in values.items():
        if not hasattr(end, name):
            raise AttributeError(name)
        setattr(end, name, value)
    return end


def end_that_got(row, **values):
    """An end to which these bytes came in order, none of them read."""
    return end_with(unread=list(row), came=len(row), **values)
