"""The server's end of a line: what it keeps, how it sends, fails and tells."""

from manyonline.events import nothing_told, weight_of_event
from manyonline.kinds import AWAY_FRAME, FINE, RESET_FRAME, SETTINGS_FRAME
from manyonline.rows import bytes_of_number
from manyonline.table import Table

MOST_STREAMS = 32
MOST_WAITING = 65536
WINDOW_AT_FIRST = 65535

# The setting that tells the other end how many streams it may have at once.
STREAMS_SETTING = 3


class Stream:
    """A stream that hasn't gone."""

    def __init__(self, window, more_may_come):
        self.window = window
        self.more_may_come = more_may_come
        self.answer_has_begun = False


class Line:
    def __init__(self):
        self.first_bytes_come = 0
        self.frame_bytes = []
        self.settings_have_come = False
        self.open_block = None
        self.failed = False
        self.highest = 0
        self.streams = {}
        self.window = WINDOW_AT_FIRST
        self.first_window = WINDOW_AT_FIRST
        self.table = Table()
        self.block_was_sent = False
        self.unsent = []
        self.untold = []
        self.untold_weight = 0
        self.told_now = nothing_told()


def begin_line():
    line = Line()
    setting = bytes_of_number(STREAMS_SETTING, 2) + bytes_of_number(MOST_STREAMS, 4)
    send_frame(line, SETTINGS_FRAME, 0, 0, setting)
    return line


def send_frame(line, kind, flags, stream, body):
    line.unsent.extend(bytes_of_number(len(body), 3))
    line.unsent.extend([kind, flags])
    line.unsent.extend(bytes_of_number(stream, 4))
    line.unsent.extend(body)


def fail_line(line, code):
    send_frame(line, AWAY_FRAME, 0, 0, bytes_of_number(line.highest, 4) + bytes_of_number(code, 4))
    line.failed = True


def fail_stream(line, number, code):
    send_frame(line, RESET_FRAME, 0, number, bytes_of_number(code, 4))
    # A stream may fail that isn't there: it's gone already, or idle still.
    if number in line.streams:
        line.streams.pop(number)


def end_stream(line, number):
    """All that this end sends of the stream has been sent."""
    if line.streams[number].more_may_come:
        fail_stream(line, number, FINE)
    else:
        line.streams.pop(number)


def is_idle(line, number):
    return number > line.highest or number % 2 == 0


def tell(line, event):
    line.untold.append(event)
    line.untold_weight += weight_of_event(event)


def too_much_unsent(line):
    return len(line.unsent) > MOST_WAITING


def must_wait(line):
    """Whether no more bytes may come until more has been taken or told."""
    return too_much_unsent(line) or line.untold_weight > MOST_WAITING
