"""How a segment is laid out, and how its numbers of 32 bits go round."""

HEAD = 14
WANTED_AT = 4
FLAGS_AT = 8
ZERO_AT = 9
WINDOW_AT = 10

BEGINS = 1
ENDS = 2
ANSWERS = 4
BREAKS = 8

ROUND = 4294967296
HALF_ROUND = 2147483648
WORD = 65536
FULL_WORD = 65535


def is_right(segment):
    """Whether it is long enough, has its byte 0, and its sum is right."""
    return len(segment) >= HEAD and segment[ZERO_AT] == 0 and sum_is_right(segment)


def sum_is_right(segment):
    total = 0
    for at, value in enumerate(segment):
        total += value * 256 if at % 2 == 0 else value
    while total > FULL_WORD:
        total = total // WORD + total % WORD
    return total == FULL_WORD


def number_at(segment, at, length):
    """The number in so many bytes from there on, highest byte first."""
    number = 0
    for value in segment[at:at + length]:
        number = number * 256 + value
    return number


def place_of(segment):
    return number_at(segment, 0, 4)


def wanted_place_of(segment):
    return number_at(segment, WANTED_AT, 4)


def window_of(segment):
    return number_at(segment, WINDOW_AT, 2)


def has_flag(segment, flag):
    return (segment[FLAGS_AT] & flag) != 0


def data_of(segment):
    return segment[HEAD:]


def segment_without_sum(place, wanted_place, flags, window, data):
    """A segment whose sum is told as 0."""
    return row_of(place, 4) + row_of(wanted_place, 4) + [flags, 0] + row_of(window, 2) + [0, 0] + data


def row_of(number, length):
    """A number as so many bytes, highest byte first; what doesn't fit has gone round."""
    row = []
    for count in range(length):
        row.append(number % 256)
        number = number // 256
    return list(reversed(row))


def nearest(number, near):
    """Of all numbers that go round to the same place as this one, the nearest to near; of two the smaller."""
    further = (number - near) % ROUND
    if further >= HALF_ROUND:
        return near + further - ROUND
    return near + further
