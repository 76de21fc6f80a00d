"""Frames: one that has come whole, and how much there may be in any."""

from manyonline.kinds import PADDED

# Of what comes no more is taken; of what goes, every other end takes as much.
MOST_IN_FRAME = 16384


class Frame:
    def __init__(self, kind, flags, stream, body):
        self.kind = kind
        self.flags = flags
        self.stream = stream
        self.body = body

    def has_set(self, bit):
        return self.flags & bit != 0


def without_padding(frame):
    """What is in a frame but its padding, or None where the padding is wrong."""
    if not frame.has_set(PADDED):
        return frame.body
    if len(frame.body) == 0 or frame.body[0] > len(frame.body) - 1:
        return None
    return frame.body[1:len(frame.body) - frame.body[0]]
