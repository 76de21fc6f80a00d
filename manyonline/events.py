"""What is told, one after another: requests, trailers, data, resets, the other end's going."""

from manyonline.headers import weight_of_headers

NOTHING = 0
REQUEST = 1
TRAILERS = 2
DATA = 3
RESET = 4
GOES_AWAY = 5


class Event:
    def __init__(self, kind, stream, no_more, code):
        self.kind = kind
        self.stream = stream
        self.no_more = no_more
        self.code = code
        self.headers = []
        self.body = []


def nothing_told():
    return Event(NOTHING, 0, False, 0)


def headers_event(kind, stream, no_more, headers):
    event = Event(kind, stream, no_more, 0)
    event.headers = headers
    return event


def data_event(stream, no_more, body):
    event = Event(DATA, stream, no_more, 0)
    event.body = body
    return event


def weight_of_event(event):
    if event.kind == REQUEST or event.kind == TRAILERS:
        return weight_of_headers(event.headers)
    return len(event.body) + 32


def numbers_of_event(event):
    no_more = 1 if event.no_more else 0
    how_many = len(event.headers) + len(event.body)
    return [event.kind, event.stream, no_more, how_many, event.code]
