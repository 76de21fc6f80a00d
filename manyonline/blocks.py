"""Blocks of headers: how they come in one frame or several, and what follows once they are whole.

Where a function answers a fault, it's the code with which the line fails, or FINE.
"""

from manyonline.events import REQUEST, TRAILERS, headers_event
from manyonline.headers import are_request_headers, are_trailers, weight_of_headers
from manyonline.kinds import (
    FINE,
    MORE_FRAME,
    NO_MORE_MAY_COME,
    OUT_OF_RULE,
    TOO_MANY_STREAMS,
    TOO_MUCH,
    WHOLE,
    WRONGLY_PACKED,
)
from manyonline.line import MOST_STREAMS, Stream, fail_stream, tell
from manyonline.unpacking import WrongBlock, unpack

MOST_BLOCK_BYTES = 65536
MOST_HEADERS_WEIGHT = 65536


class Block:
    def __init__(self, stream, depends_on_itself, last):
        self.stream = stream
        self.depends_on_itself = depends_on_itself
        self.last = last
        self.packed = []


def go_on_with_block(line, frame):
    if frame.kind != MORE_FRAME or frame.stream != line.open_block.stream:
        return OUT_OF_RULE
    return add_to_block(line, frame.body, frame.has_set(WHOLE))


def add_to_block(line, packed, whole):
    block = line.open_block
    block.packed.extend(packed)
    if len(block.packed) > MOST_BLOCK_BYTES:
        return TOO_MUCH
    if not whole:
        return FINE
    line.open_block = None
    return end_block(line, block)


def end_block(line, block):
    try:
        headers = unpack(block.packed, line.table)
    except WrongBlock:
        return WRONGLY_PACKED
    if weight_of_headers(headers) > MOST_HEADERS_WEIGHT:
        return TOO_MUCH
    if block.stream in line.streams:
        end_with_trailers(line, block, headers)
    elif block.stream <= line.highest:
        fail_stream(line, block.stream, NO_MORE_MAY_COME)
    else:
        begin_stream(line, block, headers)
    return FINE


def end_with_trailers(line, block, headers):
    stream = line.streams[block.stream]
    if not stream.more_may_come:
        fail_stream(line, block.stream, NO_MORE_MAY_COME)
    elif block.depends_on_itself or not block.last or not are_trailers(headers):
        fail_stream(line, block.stream, OUT_OF_RULE)
    else:
        stream.more_may_come = False
        tell(line, headers_event(TRAILERS, block.stream, True, headers))


def begin_stream(line, block, headers):
    line.highest = block.stream
    if block.depends_on_itself or not are_request_headers(headers):
        fail_stream(line, block.stream, OUT_OF_RULE)
    elif len(line.streams) >= MOST_STREAMS:
        fail_stream(line, block.stream, TOO_MANY_STREAMS)
    else:
        line.streams[block.stream] = Stream(line.first_window, not block.last)
        tell(line, headers_event(REQUEST, block.stream, block.last, headers))
