"""Promise 2: the first 24 bytes, frames as soon as they're whole, pieces of any size."""

import unittest

from manyonline.coming import feed_bytes
from manyonline.line import begin_line
from manyonline.telling import take_bytes
from tests.helpers import (
    ACKNOWLEDGED, BEGIN, EVENT, FIRST_BYTES, GET, LARGEST, START, Outcome,
    feed, four, frame, header, indexed, kept, line_fails, request, run, sent, setting, spelled, split_frames, take,
)


class FirstBytesTest(unittest.TestCase):
    def test_the_right_ones_send_nothing(self):
        parts = run(BEGIN, feed(FIRST_BYTES), take())
        self.assertEqual(parts[1], [24])
        self.assertEqual(len(split_frames(parts[2][1:])), 1)

    def test_each_of_them_wrong(self):
        for place in range(24):
            for other in (FIRST_BYTES[place] ^ 1, FIRST_BYTES[place] ^ 128, 0):
                wrong = FIRST_BYTES[:place] + [other]
                parts = run(BEGIN, feed(wrong), take())
                self.assertEqual(parts[1], [place + 1])
                self.assertEqual(split_frames(parts[2][1:])[1:], [line_fails(1)], place)

    def test_all_but_the_wrong_one_are_waited_for(self):
        for place in range(24):
            parts = run(BEGIN, feed(FIRST_BYTES[:place]), take(), feed([FIRST_BYTES[place]]), take())
            self.assertEqual(parts[2][0], 15)
            self.assertEqual(parts[4], [0])

    def test_only_the_first_wrong_byte_fails_the_line(self):
        parts = run(BEGIN, feed([0] * 50), take(), feed([1] * 50), take())
        self.assertEqual(parts[1], [50])
        self.assertEqual(split_frames(parts[2][1:])[1:], [line_fails(1)])
        self.assertEqual(parts[3:], [[50], [0]])

    def test_first_bytes_twice_are_no_frame(self):
        # "PRI" as a length is above 16384.
        self.assertEqual(sent(FIRST_BYTES), [line_fails(6)])


class FirstFrameTest(unittest.TestCase):
    def frames_behind(self, row):
        return Outcome(row, FIRST_BYTES).frames[1:]

    def test_settings(self):
        self.assertEqual(self.frames_behind(frame(4, 0, 0)), [ACKNOWLEDGED])
        self.assertEqual(self.frames_behind(frame(4, 254, 0)), [ACKNOWLEDGED])
        self.assertEqual(self.frames_behind(frame(4, 0, 0, setting(1, 1))), [ACKNOWLEDGED])

    def test_settings_that_answer(self):
        for flags in (1, 3, 255):
            self.assertEqual(self.frames_behind(frame(4, flags, 0)), [line_fails(1)])
        # Later on a length would fail it with 6.
        self.assertEqual(self.frames_behind(frame(4, 1, 0, [0])), [line_fails(1)])

    def test_settings_that_are_wrong(self):
        self.assertEqual(self.frames_behind(frame(4, 0, 1)), [line_fails(1)])
        self.assertEqual(self.frames_behind(frame(4, 0, 0, [0] * 5)), [line_fails(6)])
        self.assertEqual(self.frames_behind(frame(4, 0, 0, setting(2, 2))), [line_fails(1)])

    def test_every_other_kind(self):
        for kind in range(256):
            if kind != 4:
                self.assertEqual(self.frames_behind(frame(kind, 0, 0, [0] * 8)), [line_fails(1)], kind)

    def test_a_request_first(self):
        outcome = Outcome(request(1), FIRST_BYTES)
        self.assertEqual(outcome.frames[1:], [line_fails(1)])
        self.assertEqual(outcome.told, [])

    def test_it_is_looked_at_when_it_is_whole(self):
        wrong = frame(6, 0, 0, [0] * 8)
        for cut in (9, len(wrong) - 1):
            self.assertEqual(self.frames_behind_part(wrong[:cut]), [])

    def frames_behind_part(self, row):
        parts = run(BEGIN, feed(FIRST_BYTES + row), take())
        return split_frames(parts[2][1:])[1:]

    def test_the_second_may_be_another(self):
        self.assertEqual(sent(frame(6, 0, 0, [3] * 8)), [(6, 1, 0, [3] * 8)])
        self.assertEqual(sent(frame(4, 1, 0)), [])


class LengthTest(unittest.TestCase):
    def head(self, length):
        return list(length.to_bytes(3, "big"))

    def test_16384_are_right(self):
        outcome = Outcome(frame(200, 0, 0, [0] * 16384) + frame(6, 0, 0, [1] * 8))
        self.assertEqual(outcome.sent, [(6, 1, 0, [1] * 8)])
        self.assertEqual(outcome.taken, outcome.fed)

    def test_more_fails_as_soon_as_nine_bytes_are_there(self):
        for length in (16385, 65536, 16777215):
            for rest in ([200, 0, 0, 0, 0, 0], [0, 0, 0, 0, 0, 2], [4, 1, 0, 0, 0, 1]):
                row = START + self.head(length) + rest
                parts = run(BEGIN, feed(row[:-1]), take(), feed(row[-1:]), take())
                self.assertEqual(len(split_frames(parts[2][1:])), 2)
                self.assertEqual(split_frames(parts[4][1:]), [line_fails(6)])

    def test_more_in_the_first_frame(self):
        parts = run(BEGIN, feed(FIRST_BYTES + self.head(16385) + [0] * 6), take())
        self.assertEqual(split_frames(parts[2][1:])[1:], [line_fails(6)])

    def test_more_while_a_block_goes_on(self):
        row = frame(1, 0, 1, GET) + self.head(16385) + [0] * 6
        self.assertEqual(sent(row), [line_fails(6)])

    def test_the_highest_stream_is_said(self):
        self.assertEqual(sent(request(7) + self.head(16385) + [0] * 6), [line_fails(6, 7)])

    def test_the_uppermost_bit_of_a_stream_is_left_aside(self):
        row = request(5)
        row[5] |= 128
        self.assertEqual(Outcome(row).told, [[1, 5, 1, 3, 0]])
        row = frame(6, 0, 0, [0] * 8)
        row[5] |= 128
        self.assertEqual(sent(row), [(6, 1, 0, [0] * 8)])

    def test_the_highest_number_of_a_stream(self):
        self.assertEqual(Outcome(request(LARGEST)).told, [[1, LARGEST, 1, 3, 0]])
        self.assertEqual(sent(request(LARGEST) + frame(5, 0, 0)), [line_fails(1, LARGEST)])


class FailedLineTest(unittest.TestCase):
    def test_whatever_comes_is_left_aside_and_taken(self):
        row = frame(5, 0, 0) + frame(6, 0, 0, [0] * 8) + request(1) + frame(5, 0, 0)
        outcome = Outcome(row)
        self.assertEqual(outcome.sent, [line_fails(1)])
        self.assertEqual(outcome.told, [])
        self.assertEqual(outcome.taken, outcome.fed)

    def test_in_later_calls_too(self):
        parts = run(BEGIN, feed(START + frame(5, 0, 0)), take(), feed(request(1)), feed(START), feed([]), take(), EVENT)
        self.assertEqual(parts[3:], [[len(request(1))], [len(START)], [0], [0], [0, 0, 0, 0, 0]])

    def test_what_was_to_be_told_is_told(self):
        self.assertEqual(Outcome(request(1) + frame(5, 0, 0)).told, [[1, 1, 1, 3, 0]])


class PiecesTest(unittest.TestCase):
    ROW = (
        START + frame(4, 0, 0, setting(4, 70000)) + request(1, kept(b"a", b"bc"), False)
        + frame(0, 8, 1, [2, 5, 6, 0, 0]) + frame(6, 0, 0, [1, 2, 3, 4, 5, 6, 7, 8])
        + frame(1, 1, 3, GET[:1]) + frame(9, 0, 3, GET[1:]) + frame(9, 4, 3, indexed(62))
        + frame(1, 5, 1, indexed(62)) + frame(3, 0, 3, four(8)) + frame(8, 0, 0, four(9))
        + frame(0, 0, 1, [1]) + frame(2, 0, 9, [0] * 4) + frame(7, 0, 0, four(3) + four(4294967295))
        + request(5, spelled(b"A", b"")) + frame(77, 1, 3, [3]) + frame(9, 0, 1) + [1, 2, 3]
    )

    def outcome(self, pieces):
        calls = [feed(piece) for piece in pieces]
        parts = run(BEGIN, *calls, take(), *[EVENT, header(0), header(3)] * 8)
        self.assertEqual([part[0] for part in parts[1:1 + len(calls)]], [len(piece) for piece in pieces])
        return parts[1 + len(calls):]

    def test_pieces_of_any_size(self):
        whole = self.outcome([self.ROW])
        self.assertEqual(whole[1:2] + whole[4:5], [[1, 1, 0, 4, 0], [3, 1, 0, 2, 0]])
        for size in (2, 3, 5, 9, 16, 24, 25, 33, 100):
            pieces = [self.ROW[k:k + size] for k in range(0, len(self.ROW), size)]
            self.assertEqual(self.outcome(pieces), whole, size)
        for cut in range(len(self.ROW) + 1):
            self.assertEqual(self.outcome([self.ROW[:cut], [], self.ROW[cut:]]), whole, cut)

    def test_one_by_one(self):
        whole = self.outcome([self.ROW])
        line = begin_line()
        for byte in self.ROW:
            self.assertEqual(feed_bytes(line, [byte]), 1)
        self.assertEqual(take_bytes(line, 65536), whole[0])

    def test_one_by_one_by_calls(self):
        row = self.ROW[:250]
        self.assertEqual(self.outcome([[byte] for byte in row]), self.outcome([row]))


class HowManyTest(unittest.TestCase):
    def test_none(self):
        self.assertEqual(run(BEGIN, feed([])), [[0], [0]])

    def test_16384_and_one_more(self):
        row = START + [0] * 16384
        line = begin_line()
        self.assertEqual(feed_bytes(line, row[:16384]), 16384)
        line = begin_line()
        self.assertEqual(feed_bytes(line, row[:16385]), -1)

    def test_16384_by_a_call(self):
        row = (START + frame(200, 0, 0, [0] * 16384))[:16384]
        self.assertEqual(run(BEGIN, feed(row))[1], [16384])

    def test_a_refusal_changes_nothing(self):
        line = begin_line()
        self.assertEqual(feed_bytes(line, [0] * 16385), -1)
        self.assertEqual(take_bytes(line, 65536)[0], 15)
        self.assertEqual(feed_bytes(line, START), len(START))
        self.assertEqual(take_bytes(line, 65536), [9] + frame(4, 1, 0))


if __name__ == "__main__":
    unittest.main()
