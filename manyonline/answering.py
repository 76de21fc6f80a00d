"""What the calls send: answers, data, resets, and that this end goes away.

Each answers a number: 0 or how many bytes were sent, or a refusal below 0, which changes nothing.
"""

from manyonline.frame import MOST_IN_FRAME
from manyonline.headers import Header, are_answer_headers
from manyonline.kinds import DATA_FRAME, HEADERS_FRAME, LAST, MORE_FRAME, WHOLE
from manyonline.line import end_stream, fail_line, fail_stream, send_frame, too_much_unsent
from manyonline.packing import pack
from manyonline.rows import number_of_bytes

DONE = 0
NOT_RIGHT = -1
TOO_MUCH_UNSENT = -2
LINE_HAS_FAILED = -4

MOST_HEADER_BYTES = 16384
MOST_DATA_BYTES = 65536

# How many bytes tell the lengths of a name and of a value.
LENGTH_BYTES = 2

# A block's first byte: the other end needn't keep the other table, as no block that is sent uses it.
EMPTY_TABLE = 32


def answer_stream(line, number, row, last):
    if line.failed:
        return LINE_HAS_FAILED
    if not 1 <= len(row) <= MOST_HEADER_BYTES or number not in line.streams:
        return NOT_RIGHT
    headers = read_headers(row)
    if headers is None or not are_answer_headers(headers) or line.streams[number].answer_has_begun:
        return NOT_RIGHT
    if too_much_unsent(line):
        return TOO_MUCH_UNSENT
    send_block(line, number, block_of(line, headers), last)
    line.streams[number].answer_has_begun = True
    if last:
        end_stream(line, number)
    return DONE


def read_headers(row):
    """The headers that are handed over, or None where they can't be read."""
    headers = []
    place = 0
    while place < len(row):
        name_length = number_of_bytes(row[place:place + LENGTH_BYTES])
        name_begin = place + 2 * LENGTH_BYTES
        value_length = number_of_bytes(row[place + LENGTH_BYTES:name_begin])
        value_begin = name_begin + name_length
        place = value_begin + value_length
        # Where the lengths themselves are cut short, this is beyond the end too.
        if place > len(row):
            return None
        headers.append(Header(row[name_begin:value_begin], row[value_begin:place]))
    return headers


def block_of(line, headers):
    packed = pack(headers, line.table.fixed_ones)
    if line.block_was_sent:
        return packed
    line.block_was_sent = True
    return [EMPTY_TABLE] + packed


def send_block(line, number, block, last):
    pieces = pieces_of(block)
    for k, piece in enumerate(pieces):
        kind = HEADERS_FRAME if k == 0 else MORE_FRAME
        flags = LAST if k == 0 and last else 0
        if k == len(pieces) - 1:
            flags += WHOLE
        send_frame(line, kind, flags, number, piece)


def pieces_of(row):
    """The row in pieces that a frame can hold, all but the last one as long as can be."""
    return [row[place:place + MOST_IN_FRAME] for place in range(0, len(row), MOST_IN_FRAME)]


def send_data(line, number, row, last):
    if line.failed:
        return LINE_HAS_FAILED
    stream = line.streams.get(number)
    if len(row) > MOST_DATA_BYTES or stream is None or not stream.answer_has_begun:
        return NOT_RIGHT
    if too_much_unsent(line):
        return TOO_MUCH_UNSENT
    count = max(0, min(len(row), stream.window, line.window))
    stream.window -= count
    line.window -= count
    ends = last and count == len(row)
    send_data_frames(line, number, row[:count], ends)
    if ends:
        end_stream(line, number)
    return count


def send_data_frames(line, number, row, ends):
    pieces = pieces_of(row)
    if ends and len(pieces) == 0:
        # The end is told with a frame, though there's nothing to put into it.
        pieces.append([])
    for k, piece in enumerate(pieces):
        flags = LAST if ends and k == len(pieces) - 1 else 0
        send_frame(line, DATA_FRAME, flags, number, piece)


def reset_stream(line, number, code):
    if line.failed:
        return LINE_HAS_FAILED
    if code < 0 or number not in line.streams:
        return NOT_RIGHT
    fail_stream(line, number, code)
    return DONE


def go_away(line, code):
    if line.failed:
        return LINE_HAS_FAILED
    if code < 0:
        return NOT_RIGHT
    fail_line(line, code)
    return DONE
