"""Settings and windows: what the other end lets this one do.

Where a function answers a fault, it's the code with which the line or a stream fails, or FINE.
"""

from manyonline.kinds import FINE, OUT_OF_RULE, WINDOW_TOO_LARGE
from manyonline.rows import number_of_bytes

MOST_WINDOW = 2147483647
SETTING_BYTES = 6

# What a setting is about.
PUSH_SETTING = 2
WINDOW_SETTING = 4
LENGTH_SETTING = 5
LEAST_FRAME_LENGTH = 16384
MOST_FRAME_LENGTH = 16777215


def take_settings(line, body):
    for place in range(0, len(body), SETTING_BYTES):
        what = number_of_bytes(body[place:place + 2])
        how_much = number_of_bytes(body[place + 2:place + SETTING_BYTES])
        fault = take_setting(line, what, how_much)
        if fault != FINE:
            return fault
    return FINE


def take_setting(line, what, how_much):
    if what == PUSH_SETTING and how_much > 1:
        return OUT_OF_RULE
    if what == WINDOW_SETTING:
        return change_first_window(line, how_much)
    if what == LENGTH_SETTING and not LEAST_FRAME_LENGTH <= how_much <= MOST_FRAME_LENGTH:
        return OUT_OF_RULE
    return FINE


def change_first_window(line, how_much):
    if how_much > MOST_WINDOW:
        return WINDOW_TOO_LARGE
    change = how_much - line.first_window
    line.first_window = how_much
    for stream in line.streams.values():
        stream.window += change
        if stream.window > MOST_WINDOW:
            return WINDOW_TOO_LARGE
    return FINE


def grow_window(owner, growth):
    """Let the window of a line or a stream grow; the fault that is answered is its owner's."""
    if growth == 0:
        return OUT_OF_RULE
    if owner.window + growth > MOST_WINDOW:
        return WINDOW_TOO_LARGE
    owner.window += growth
    return FINE
