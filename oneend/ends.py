"""One end of a connection: what it has been given to send, and what has come from the other end."""

from oneend.layout import ANSWERS, BEGINS, BREAKS, ENDS, HEAD, ROUND
from oneend.layout import data_of, has_flag, is_right, nearest, place_of, segment_without_sum
from oneend.layout import wanted_place_of, window_of

SEND_ROOM = 16384
FULL_WINDOW = 8192
SMALL_WINDOW = 536
MOST_DATA = 536
FIRST_PATIENCE = 1000
MOST_PATIENCE = 60000

CLOSED_OR_BROKEN = -1
ALL_READ = -1
BROKEN = -3


class End:
    """An end answers each call with a list of numbers; a refusal is one number below 0, and changes nothing.

    What it sends is numbered: 0 is its beginning, then come its bytes, and behind the last one its end.
    """

    def __init__(self, first, calling):
        self.first = first
        self.calling = calling
        self.written = []
        self.closed = False
        self.acked = 0
        self.next_number = 0
        self.sent = 0
        self.theirs = 0
        self.their_first = None
        self.came = 0
        self.unread = []
        self.ahead = {}
        self.their_end = None
        self.owes = False
        self.waited = 0
        self.patience = FIRST_PATIENCE
        self.probe = False
        self.broken = False

    def room(self):
        """How many bytes may still be written."""
        # The beginning is acked as number 0 and the end as the one behind the bytes: neither is a byte.
        acked_bytes = min(max(self.acked - 1, 0), len(self.written))
        return SEND_ROOM - (len(self.written) - acked_bytes)

    def end_number(self):
        """The number that its own end has, once it's closed."""
        return len(self.written) + 1

    def other_has_begun(self):
        return self.their_first is not None

    def next_in_order(self):
        """The number of the other end's byte that is missing first."""
        return self.came + 1

    def window(self):
        """How many more bytes of the other end there is place for."""
        return FULL_WINDOW - len(self.unread)

    def whole(self):
        """Whether all bytes up to the other end's end came in order."""
        return self.their_end == self.next_in_order()

    def wanted(self):
        """The number that the other end is to send next."""
        return self.next_in_order() + (1 if self.whole() else 0)

    def write(self, row):
        if self.closed or self.broken:
            return [CLOSED_OR_BROKEN]
        taken = row[:self.room()]
        self.written.extend(taken)
        return [len(taken)]

    def close(self):
        if self.closed or self.broken:
            return [CLOSED_OR_BROKEN]
        self.closed = True
        return [0]

    def read(self, most):
        if len(self.unread) == 0:
            return [self.nothing_to_read()]
        was_small = self.window() < SMALL_WINDOW
        taken = self.unread[:most]
        self.unread = self.unread[most:]
        # The other end may have stopped for want of place, and only an answer tells it that there is some again.
        if was_small and self.window() >= SMALL_WINDOW:
            self.owes = True
        return [len(taken)] + taken

    def nothing_to_read(self):
        # What came whole has been read to its end, and no break afterwards makes that untrue.
        if self.whole():
            return ALL_READ
        if self.broken:
            return BROKEN
        return 0

    def take_in(self, segment):
        """1 if the segment that has come is one for this end, else 0."""
        if self.broken or not is_right(segment) or self.comes_too_early(segment):
            return [0]
        if has_flag(segment, BREAKS):
            self.take_break(segment)
            return [1]
        if not self.other_has_begun():
            # What doesn't begin came too early, so this one does.
            self.their_first = place_of(segment)
        if has_flag(segment, ANSWERS) and not self.take_answer(segment):
            return [1]
        self.take_data(segment)
        return [1]

    def comes_too_early(self, segment):
        """Whether the other's beginning hasn't come, and isn't here, nor a refusal of this end's own beginning."""
        if self.other_has_begun() or has_flag(segment, BEGINS):
            return False
        wants_number_1 = wanted_place_of(segment) == (self.first + 1) % ROUND
        refuses = has_flag(segment, BREAKS) and has_flag(segment, ANSWERS) and wants_number_1
        return not refuses or self.sent == 0

    def take_break(self, segment):
        # An old or made-up break hardly ever has just the wanted place.
        if not self.other_has_begun() or place_of(segment) == self.wanted_place():
            self.broken = True

    def wanted_place(self):
        return (self.their_first + self.wanted()) % ROUND

    def take_answer(self, segment):
        """False if it wants past what was sent: then nothing else of the segment counts."""
        answered = nearest(wanted_place_of(segment) - self.first, self.acked)
        if answered > self.sent:
            self.owes = True
            return False
        if answered < self.acked:
            return True
        if answered > self.acked:
            self.waited = 0
            self.patience = FIRST_PATIENCE
        self.acked = answered
        self.next_number = max(self.next_number, answered)
        self.theirs = window_of(segment)
        return True

    def take_data(self, segment):
        data = data_of(segment)
        number = self.number_of_data(segment)
        start = self.next_in_order()
        stop = start + self.window()
        for k in range(max(start, number), min(stop, number + len(data))):
            self.ahead.setdefault(k, data[k - number])
        if has_flag(segment, ENDS) and self.their_end is None and start <= number + len(data) <= stop:
            self.their_end = number + len(data)
        self.bring_in_order()
        if has_flag(segment, BEGINS) or has_flag(segment, ENDS) or len(data) > 0:
            self.owes = True

    def number_of_data(self, segment):
        number = nearest(place_of(segment) - self.their_first, self.wanted())
        return number + (1 if has_flag(segment, BEGINS) else 0)

    def bring_in_order(self):
        while self.next_in_order() in self.ahead:
            self.unread.append(self.ahead.pop(self.next_in_order()))
            self.came += 1

    def out(self, most):
        """The segment that is to be sent now, its length before it and 1 behind it; 0 if there's none."""
        if self.broken:
            return [0]
        if self.beginning_is_due():
            return self.send(BEGINS, [])
        data = self.data_due(most - HEAD)
        if self.end_is_due(len(data)):
            return self.send(ENDS, data)
        if len(data) > 0 or self.answer_is_due():
            return self.send(0, data)
        return [0]

    def beginning_is_due(self):
        return self.next_number == 0 and (self.calling or self.other_has_begun())

    def data_due(self, most):
        """The bytes that may be sent now, at most so many."""
        if self.acked == 0:
            return []
        stop = self.acked + self.theirs
        if self.theirs == 0 and self.probe:
            stop += 1
        # A window that has shrunk may lie behind what was sent already.
        place_left = max(stop - self.next_number, 0)
        start = self.next_number - 1
        return self.written[start:start + min(MOST_DATA, most, place_left)]

    def end_is_due(self, bytes_before):
        """Whether its end goes with so many bytes, or alone."""
        return self.acked > 0 and self.closed and self.next_number + bytes_before == self.end_number()

    def answer_is_due(self):
        return self.owes and self.other_has_begun()

    def send(self, mark, data):
        """A segment that begins, ends or does neither, as mark says, with these bytes."""
        flags = mark
        wanted_place = 0
        if self.other_has_begun():
            flags = mark | ANSWERS
            wanted_place = self.wanted_place()
            self.owes = False
        place = self.first + self.next_number
        segment = segment_without_sum(place, wanted_place, flags, self.window(), data)
        self.next_number += len(data) + (0 if mark == 0 else 1)
        self.sent = max(self.sent, self.next_number)
        if mark == ENDS or len(data) > 0:
            self.probe = False
        return [len(segment)] + segment + [1]

    def tick(self, passed):
        """1 if the end has waited too long, and is to send again what isn't acked, else 0."""
        if self.broken:
            return [0]
        self.waited = self.waited + passed if self.waits() else 0
        if self.waited < self.patience:
            return [0]
        self.next_number = self.acked
        self.probe = True
        self.waited = 0
        self.patience = min(self.patience * 2, MOST_PATIENCE)
        return [1]

    def waits(self):
        """Whether an answer is to come, be it only that the other end has place again."""
        shut_out = self.theirs == 0 and self.acked > 0 and self.sent < self.end_number()
        return self.acked < self.sent or shut_out

    def state(self):
        if self.broken:
            return [5]
        if not self.other_has_begun() or self.acked == 0:
            return [0]
        end_is_acked = self.acked > self.end_number()
        return [1 + (1 if self.whole() else 0) + (2 if end_is_acked else 0)]
