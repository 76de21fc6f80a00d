"""Frames that have come whole: what follows from each kind of them.

Where a function answers a fault, it's the code with which the line fails, or FINE.
"""

from manyonline.blocks import Block, add_to_block, go_on_with_block
from manyonline.events import GOES_AWAY, RESET, Event, data_event
from manyonline.frame import without_padding
from manyonline.kinds import (
    ANSWERED,
    FINE,
    LAST,
    NO_MORE_MAY_COME,
    OUT_OF_RULE,
    PING_FRAME,
    SETTINGS_FRAME,
    WHOLE,
    WINDOW_FRAME,
    WITH_PRIORITY,
    WRONG_LENGTH,
)
from manyonline.line import fail_stream, is_idle, send_frame, tell
from manyonline.rows import bytes_of_number, number_of_bytes, number_without_top_bit
from manyonline.settings import SETTING_BYTES, grow_window, take_settings


def data_came(line, frame):
    body = without_padding(frame)
    # Stream 0 is even, and so idle like the others that are.
    if body is None or is_idle(line, frame.stream):
        return OUT_OF_RULE
    give_back_room(line, 0, frame)
    stream = line.streams.get(frame.stream)
    if stream is None or not stream.more_may_come:
        fail_stream(line, frame.stream, NO_MORE_MAY_COME)
        return FINE
    last = frame.has_set(LAST)
    if last:
        stream.more_may_come = False
    else:
        give_back_room(line, frame.stream, frame)
    tell(line, data_event(frame.stream, last, body))
    return FINE


def give_back_room(line, number, frame):
    # Padding has used up room too: all that was in the frame counts.
    if len(frame.body) > 0:
        send_frame(line, WINDOW_FRAME, 0, number, bytes_of_number(len(frame.body), 4))


def headers_came(line, frame):
    body = without_padding(frame)
    if frame.stream % 2 == 0 or body is None:
        return OUT_OF_RULE
    depends_on_itself = False
    if frame.has_set(WITH_PRIORITY):
        if len(body) < 5:
            return WRONG_LENGTH
        depends_on_itself = number_without_top_bit(body[:4]) == frame.stream
        body = body[5:]
    line.open_block = Block(frame.stream, depends_on_itself, frame.has_set(LAST))
    return add_to_block(line, body, frame.has_set(WHOLE))


def priority_came(line, frame):
    if frame.stream == 0:
        return OUT_OF_RULE
    if len(frame.body) != 5:
        fail_stream(line, frame.stream, WRONG_LENGTH)
    elif number_without_top_bit(frame.body[:4]) == frame.stream:
        fail_stream(line, frame.stream, OUT_OF_RULE)
    return FINE


def reset_came(line, frame):
    if frame.stream == 0:
        return OUT_OF_RULE
    if len(frame.body) != 4:
        return WRONG_LENGTH
    if is_idle(line, frame.stream):
        return OUT_OF_RULE
    if frame.stream in line.streams:
        line.streams.pop(frame.stream)
        tell(line, Event(RESET, frame.stream, True, number_of_bytes(frame.body)))
    return FINE


def settings_came(line, frame):
    if frame.stream != 0:
        return OUT_OF_RULE
    if frame.has_set(ANSWERED):
        return FINE if len(frame.body) == 0 else WRONG_LENGTH
    if len(frame.body) % SETTING_BYTES != 0:
        return WRONG_LENGTH
    fault = take_settings(line, frame.body)
    if fault == FINE:
        send_frame(line, SETTINGS_FRAME, ANSWERED, 0, [])
    return fault


def never_right(line, frame):
    return OUT_OF_RULE


def ping_came(line, frame):
    if frame.stream != 0:
        return OUT_OF_RULE
    if len(frame.body) != 8:
        return WRONG_LENGTH
    if not frame.has_set(ANSWERED):
        send_frame(line, PING_FRAME, ANSWERED, 0, frame.body)
    return FINE


def away_came(line, frame):
    if frame.stream != 0:
        return OUT_OF_RULE
    if len(frame.body) < 8:
        return WRONG_LENGTH
    tell(line, Event(GOES_AWAY, 0, False, number_of_bytes(frame.body[4:8])))
    return FINE


def window_came(line, frame):
    if len(frame.body) != 4:
        return WRONG_LENGTH
    growth = number_without_top_bit(frame.body)
    if frame.stream == 0:
        return grow_window(line, growth)
    if is_idle(line, frame.stream):
        return OUT_OF_RULE
    if frame.stream in line.streams:
        fault = grow_window(line.streams[frame.stream], growth)
        if fault != FINE:
            fail_stream(line, frame.stream, fault)
    return FINE


# In the order of the kinds, from 0 on: a frame of kind 9 is right only while a block goes on.
BY_KIND = (
    data_came,
    headers_came,
    priority_came,
    reset_came,
    settings_came,
    never_right,
    ping_came,
    away_came,
    window_came,
    never_right,
)


def frame_came(line, frame):
    if not line.settings_have_come:
        if frame.kind != SETTINGS_FRAME or frame.has_set(ANSWERED):
            return OUT_OF_RULE
        line.settings_have_come = True
    if line.open_block is not None:
        return go_on_with_block(line, frame)
    if frame.kind < len(BY_KIND):
        return BY_KIND[frame.kind](line, frame)
    return FINE
