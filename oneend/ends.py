"""One end of a connection: what it has been given to send, and what has come from the other end."""

SEND_ROOM = 16384
FULL_WINDOW = 8192
SMALL_WINDOW = 536

CLOSED_OR_BROKEN = -1
ALL_READ = -1
BROKEN = -3


class End:
    """An end answers each call with a list of numbers; a refusal is one number below 0, and changes nothing."""

    def __init__(self, first, calling):
        self.first = first
        self.calling = calling
        self.written = []
        self.acked = 0
        self.closed = False
        self.broken = False
        self.came = 0
        self.unread = []
        self.their_end = None
        self.owes = False

    def room(self):
        """How many bytes may still be written."""
        # The beginning is acked as number 0 and the end as the one behind the bytes: neither is a byte.
        acked_bytes = min(max(self.acked - 1, 0), len(self.written))
        return SEND_ROOM - (len(self.written) - acked_bytes)

    def window(self):
        """How many more bytes of the other end there is place for."""
        return FULL_WINDOW - len(self.unread)

    def whole(self):
        """Whether all bytes up to the other end's end came in order."""
        return self.their_end == self.came + 1

    def write(self, row):
        if self.closed or self.broken:
            return [CLOSED_OR_BROKEN]
        taken = row[:self.room()]
        self.written.extend(taken)
        return [len(taken)]

    def close(self):
        if self.closed or self.broken:
            return [CLOSED_OR_BROKEN]
        self.closed = True
        return [0]

    def read(self, most):
        if len(self.unread) == 0:
            return [self.nothing_to_read()]
        was_small = self.window() < SMALL_WINDOW
        taken = self.unread[:most]
        self.unread = self.unread[most:]
        # The other end may have stopped for want of place, and only an answer tells it that there is some again.
        if was_small and self.window() >= SMALL_WINDOW:
            self.owes = True
        return [len(taken)] + taken

    def nothing_to_read(self):
        # What came whole has been read to its end, and no break afterwards makes that untrue.
        if self.whole():
            return ALL_READ
        if self.broken:
            return BROKEN
        return 0
