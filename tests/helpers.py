"""What the tests share: frames, packed headers, calls, and a look at what they answer."""

from manyonline.desk import answers

FIRST_BYTES = list(b"PRI * HTTP/2.0\r\n\r\nSM\r\n\r\n")
MOST = 65536
LARGEST = 2147483647

BEGIN = [0]
EVENT = [3]


def feed(row):
    return [1, len(row)] + list(row)


def take(most=MOST):
    return [2, most]


def header(k, most=MOST):
    return [4, k, most]


def data(most=MOST):
    return [5, most]


def answer(stream, headers, last=0):
    """Headers are pairs, or a row of bytes as it is handed over."""
    row = handed(*headers) if isinstance(headers, tuple) else list(headers)
    return [6, stream, last, len(row)] + row


def handed(*pairs):
    """Headers as they are handed over: two lengths, the name, the value."""
    row = []
    for name, value in pairs:
        row.extend(len(name).to_bytes(2, "big") + len(value).to_bytes(2, "big") + bytes(name) + bytes(value))
    return row


def send(stream, row, last=0):
    return [7, stream, last, len(row)] + list(row)


def reset(stream, code):
    return [8, stream, code]


def away(code):
    return [9, code]


def run(*calls):
    """The answers to these calls, a list each."""
    numbers = []
    for call in calls:
        numbers.extend(call)
    return split_answers(answers(numbers))


def split_answers(numbers):
    parts = []
    place = 0
    while place < len(numbers):
        count = numbers[place]
        parts.append(numbers[place + 1:place + 1 + count])
        place += 1 + count
    return parts


def four(number):
    return list(number.to_bytes(4, "big"))


def frame(kind, flags, stream, body=()):
    body = list(body)
    return list(len(body).to_bytes(3, "big")) + [kind, flags] + four(stream) + body


def split_frames(row):
    """Frames as (kind, flags, stream, what's in it)."""
    frames = []
    place = 0
    while place < len(row):
        length = int.from_bytes(bytes(row[place:place + 3]), "big")
        stream = int.from_bytes(bytes(row[place + 5:place + 9]), "big")
        end = place + 9 + length
        frames.append((row[place + 3], row[place + 4], stream, row[place + 9:end]))
        assert end <= len(row)
        place = end
    return frames


OWN_SETTINGS = frame(4, 0, 0, [0, 3, 0, 0, 0, 32])
START = FIRST_BYTES + frame(4, 0, 0)
ACKNOWLEDGED = (4, 1, 0, [])


def setting(what, how_much):
    return list(what.to_bytes(2, "big")) + four(how_much)


def line_fails(code, highest=0):
    return (7, 0, 0, four(highest) + four(code))


def stream_fails(stream, code):
    return (3, 0, stream, four(code))


def room(stream, count):
    return (8, 0, stream, four(count))


def number(value, ones, upper=0):
    """A number in so many lower bits, in as few bytes as can be."""
    if value < ones:
        return [upper + value]
    row = [upper + ones]
    value -= ones
    while value >= 128:
        row.append(128 + value % 128)
        value //= 128
    return row + [value]


def text(row):
    row = list(row)
    return number(len(row), 127) + row


def indexed(k):
    return number(k, 127, 128)


def spelled(name, value):
    """A header with its name, not put into the table."""
    return [0] + text(name) + text(value)


def kept(name, value):
    """A header with its name, put into the other table."""
    return [64] + text(name) + text(value)


def resized(weight):
    return number(weight, 31, 32)


# :method GET, :scheme http, :path /
GET = [130, 134, 132]

# What an answer may begin with, as it is handed over and packed.
STATUS = (b":status", b"200")
PACKED_STATUS = [136]


def request(stream, block=(), last=True):
    """A frame that asks for something; the block holds what comes behind GET."""
    return frame(1, 5 if last else 4, stream, GET + list(block))


PING = frame(6, 0, 0, [5] * 8)

# Stream 3 is there, stream 1 is gone: data of one byte for it make 26 that are to be sent. With what the
# line's start sends, and with two more frames of settings, just 65536 bytes are to be sent.
FULL = START + request(1) + frame(3, 0, 1, four(0)) + request(3) + frame(0, 0, 1, [7]) * 2519 + frame(4, 0, 0) * 2


def after_full(*calls):
    """What calls answer once FULL has come and nothing has been taken."""
    before = [BEGIN, *feeds(FULL)]
    return run(*before, *calls)[len(before):]


class Outcome:
    """What is sent behind the own settings and the first acknowledgement, and what is told."""

    def __init__(self, row, start=START):
        row = list(start) + list(row)
        pieces = feeds(row)
        parts = run(BEGIN, *pieces, take(), *[EVENT] * 40)
        self.taken = sum(part[0] for part in parts[1:1 + len(pieces)])
        self.fed = len(row)
        self.frames = split_frames(parts[1 + len(pieces)][1:])
        self.sent = self.frames[2:]
        self.told = [part for part in parts[2 + len(pieces):] if part[0] != 0]


def feeds(row):
    """Calls that feed a row of any length."""
    return [feed(row[place:place + 16384]) for place in range(0, len(row), 16384)]


def after(row, *calls):
    """What calls answer once a line has started and the row has come, and which frames are sent from then on."""
    before = [BEGIN, *feeds(START + list(row)), take()]
    behind = [*calls, take(), take()]
    parts = run(*before, *behind)[len(before):]
    taken = [byte for call, part in zip(behind, parts) if call[0] == 2 for byte in part[1:]]
    return parts[:len(calls)], split_frames(taken)


def sent(row):
    return Outcome(row).sent


def told(row):
    return Outcome(row).told


def headers_told(row):
    """The headers of what is told first, as pairs of bytes."""
    row = START + list(row)
    event = run(BEGIN, feed(row), EVENT)[2]
    calls = [header(k) for k in range(event[3])]
    return [pair(part) for part in run(BEGIN, feed(row), EVENT, *calls)[3:]]


def pair(part):
    both = bytes(part[2:])
    assert part[0] == len(both)
    return both[:part[1]], both[part[1]:]
