"""Bytes that come, one after another: the first ones, then frames."""

from manyonline.frame import MOST_IN_FRAME, Frame
from manyonline.frames import frame_came
from manyonline.kinds import FINE, OUT_OF_RULE, WRONG_LENGTH
from manyonline.line import fail_line, must_wait
from manyonline.rows import number_of_bytes, number_without_top_bit

# "PRI * HTTP/2.0", 13, 10, 13, 10, "SM", 13, 10, 13, 10
FIRST_BYTES = (80, 82, 73, 32, 42, 32, 72, 84, 84, 80, 47, 50, 46, 48, 13, 10, 13, 10, 83, 77, 13, 10, 13, 10)
FRAME_HEAD = 9
MOST_FED = 16384
TOO_MANY = -1


def feed_bytes(line, row):
    """How many bytes were taken, or TOO_MANY where there are too many at once."""
    if len(row) > MOST_FED:
        return TOO_MANY
    taken = 0
    for byte in row:
        if must_wait(line):
            break
        byte_came(line, byte)
        taken += 1
    return taken


def byte_came(line, byte):
    if line.failed:
        return
    if line.first_bytes_come < len(FIRST_BYTES):
        fault = first_byte_came(line, byte)
    else:
        fault = frame_byte_came(line, byte)
    if fault != FINE:
        fail_line(line, fault)


def first_byte_came(line, byte):
    if byte != FIRST_BYTES[line.first_bytes_come]:
        return OUT_OF_RULE
    line.first_bytes_come += 1
    return FINE


def frame_byte_came(line, byte):
    row = line.frame_bytes
    row.append(byte)
    if len(row) < FRAME_HEAD:
        return FINE
    length = number_of_bytes(row[:3])
    if length > MOST_IN_FRAME:
        return WRONG_LENGTH
    if len(row) < FRAME_HEAD + length:
        return FINE
    line.frame_bytes = []
    return frame_came(line, Frame(row[3], row[4], number_without_top_bit(row[5:9]), row[FRAME_HEAD:]))
