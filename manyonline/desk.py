"""The desk: calls on one line's end, handed in as one list of whole numbers."""

from manyonline.answering import answer_stream, go_away, reset_stream, send_data
from manyonline.coming import feed_bytes
from manyonline.line import Line, begin_line
from manyonline.telling import data_told, header_told, next_event, take_bytes


class Desk:
    """The line's end, and how far its calls have been read."""

    def __init__(self, calls):
        self.calls = calls
        self.place = 0
        self.line = Line()

    def read_number(self):
        number = self.calls[self.place]
        self.place += 1
        return number

    def read_row(self):
        count = self.read_number()
        row = self.calls[self.place:self.place + count]
        self.place += len(row)
        return row


def call_begin(desk):
    desk.line = begin_line()
    return [0]


def call_feed(desk):
    return [feed_bytes(desk.line, desk.read_row())]


def call_take(desk):
    return take_bytes(desk.line, desk.read_number())


def call_event(desk):
    return next_event(desk.line)


def call_header(desk):
    k = desk.read_number()
    most = desk.read_number()
    return header_told(desk.line, k, most)


def call_data(desk):
    return data_told(desk.line, desk.read_number())


def call_answer(desk):
    stream = desk.read_number()
    last = desk.read_number()
    return [answer_stream(desk.line, stream, desk.read_row(), last != 0)]


def call_send(desk):
    stream = desk.read_number()
    last = desk.read_number()
    return [send_data(desk.line, stream, desk.read_row(), last != 0)]


def call_reset(desk):
    stream = desk.read_number()
    code = desk.read_number()
    return [reset_stream(desk.line, stream, code)]


def call_away(desk):
    return [go_away(desk.line, desk.read_number())]


# In the order of the calls' numbers, from 0 on.
BY_CALL = (
    call_begin,
    call_feed,
    call_take,
    call_event,
    call_header,
    call_data,
    call_answer,
    call_send,
    call_reset,
    call_away,
)


def answers(calls):
    """For each call how many numbers are answered, then these."""
    desk = Desk(calls)
    answered = []
    while desk.place < len(calls):
        answer = BY_CALL[desk.read_number()](desk)
        answered.append(len(answer))
        answered.extend(answer)
    return answered
