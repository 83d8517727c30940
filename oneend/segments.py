"""The calls about one end, taken from one list of numbers and answered in another."""

from oneend.ends import End
from oneend.layout import HEAD

OPEN = 1
WRITE = 2
CLOSE = 3
READ = 4
IN = 5
OUT = 6
TICK = 7
STATE = 8

MOST_READ = 1000000
LONGEST_SEGMENT = 65535
LONGEST_TICK = 1000000
OUT_OF_RANGE = -2


def answers(calls):
    """For each call how many numbers are answered, then these."""
    end = None
    told = []
    for kind, handed in split_calls(calls):
        answer = [OUT_OF_RANGE]
        if in_range(kind, handed):
            if kind == OPEN:
                end = End(handed[0], handed[1] == 1)
            answer = answer_call(end, kind, handed)
        told.append(len(answer))
        told.extend(answer)
    return told


def split_calls(calls):
    """Each call's number, and the list of what is handed in with it."""
    parts = []
    at = 0
    while at < len(calls):
        kind = calls[at]
        if kind == WRITE or kind == IN:
            start = at + 2
            stop = start + calls[at + 1]
        else:
            start = at + 1
            stop = start + how_many_numbers(kind)
        parts.append((kind, calls[start:stop]))
        at = stop
    return parts


def how_many_numbers(kind):
    """How many whole numbers stand behind the number of a call that has no row."""
    return {OPEN: 2, CLOSE: 0, READ: 1, OUT: 1, TICK: 1, STATE: 0}[kind]


def in_range(kind, handed):
    """Whether what is handed in with a call is in its range; a row always is."""
    if kind == OPEN:
        return 0 <= handed[1] <= 1
    if kind == READ:
        return 0 <= handed[0] <= MOST_READ
    if kind == OUT:
        return HEAD <= handed[0] <= LONGEST_SEGMENT
    if kind == TICK:
        return 0 <= handed[0] <= LONGEST_TICK
    return True


def answer_call(end, kind, handed):
    if kind == WRITE:
        return end.write(handed)
    if kind == CLOSE:
        return end.close()
    if kind == READ:
        return end.read(handed[0])
    if kind == IN:
        return end.take_in(handed)
    if kind == OUT:
        return end.out(handed[0])
    if kind == TICK:
        return end.tick(handed[0])
    if kind == STATE:
        return end.state()
    # An open is done once the end is there.
    return [0]
