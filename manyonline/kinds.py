"""The kinds of frames, the bits of their flags, and the codes of faults."""

DATA_FRAME = 0
HEADERS_FRAME = 1
RESET_FRAME = 3
SETTINGS_FRAME = 4
PING_FRAME = 6
AWAY_FRAME = 7
WINDOW_FRAME = 8
MORE_FRAME = 9

LAST = 1
ANSWERED = 1
WHOLE = 4
PADDED = 8
WITH_PRIORITY = 32

# The codes with which a stream or the line fails; where a fault is answered, FINE says there is none.
FINE = 0
OUT_OF_RULE = 1
WINDOW_TOO_LARGE = 3
NO_MORE_MAY_COME = 5
WRONG_LENGTH = 6
TOO_MANY_STREAMS = 7
WRONGLY_PACKED = 9
TOO_MUCH = 11
