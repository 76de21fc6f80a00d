"""Settings and windows of the other end.

Where a function answers a fault, it's the code with which the line fails, or FINE.
"""

from manyonline.kinds import ANSWERED, FINE, OUT_OF_RULE, SETTINGS_FRAME, WINDOW_TOO_LARGE, WRONG_LENGTH
from manyonline.line import fail_stream, is_idle, send_frame
from manyonline.rows import number_of_bytes, number_without_top_bit

MOST_WINDOW = 2147483647

# What a setting is about.
PUSH_SETTING = 2
WINDOW_SETTING = 4
LENGTH_SETTING = 5
LEAST_FRAME_LENGTH = 16384
MOST_FRAME_LENGTH = 16777215


def settings_came(line, frame):
    if frame.stream != 0:
        return OUT_OF_RULE
    if frame.has_set(ANSWERED):
        return FINE if len(frame.body) == 0 else WRONG_LENGTH
    if len(frame.body) % 6 != 0:
        return WRONG_LENGTH
    for place in range(0, len(frame.body), 6):
        what = number_of_bytes(frame.body[place:place + 2])
        how_much = number_of_bytes(frame.body[place + 2:place + 6])
        fault = take_setting(line, what, how_much)
        if fault != FINE:
            return fault
    send_frame(line, SETTINGS_FRAME, ANSWERED, 0, [])
    return FINE


def take_setting(line, what, how_much):
    if what == PUSH_SETTING and how_much > 1:
        return OUT_OF_RULE
    if what == WINDOW_SETTING:
        return change_first_window(line, how_much)
    if what == LENGTH_SETTING and not LEAST_FRAME_LENGTH <= how_much <= MOST_FRAME_LENGTH:
        return OUT_OF_RULE
    return FINE


def change_first_window(line, how_much):
    if how_much > MOST_WINDOW:
        return WINDOW_TOO_LARGE
    change = how_much - line.first_window
    line.first_window = how_much
    for stream in line.streams.values():
        stream.window += change
        if stream.window > MOST_WINDOW:
            return WINDOW_TOO_LARGE
    return FINE


def window_came(line, frame):
    if len(frame.body) != 4:
        return WRONG_LENGTH
    growth = number_without_top_bit(frame.body)
    if frame.stream == 0:
        return grow_window(line, growth)
    if is_idle(line, frame.stream):
        return OUT_OF_RULE
    if frame.stream in line.streams:
        fault = grow_window(line.streams[frame.stream], growth)
        if fault != FINE:
            fail_stream(line, frame.stream, fault)
    return FINE


def grow_window(owner, growth):
    """Let the window of a line or a stream grow; the fault that is answered is its owner's."""
    if growth == 0:
        return OUT_OF_RULE
    if owner.window + growth > MOST_WINDOW:
        return WINDOW_TOO_LARGE
    owner.window += growth
    return FINE
