"""Promise 2: frames of the kinds 2, 3, 5, 6, 7, 9 and those beyond."""

import unittest

from tests.helpers import Outcome, four, frame, line_fails, request, sent, stream_fails, told

ASKED = request(3, last=False)
ASKED_TOLD = [1, 3, 0, 3, 0]


class PriorityFrameTest(unittest.TestCase):
    def test_right_ones(self):
        for stream in (1, 2, 3, 5, 8):
            self.assertEqual(sent(ASKED + frame(2, 0, stream, four(7) + [9])), [], stream)
        self.assertEqual(sent(ASKED + frame(2, 255, 3, four(1) + [3])), [])

    def test_stream_0(self):
        for body in ([], [0] * 5):
            self.assertEqual(sent(ASKED + frame(2, 0, 0, body)), [line_fails(1, 3)])

    def test_other_than_five_bytes(self):
        for length in (0, 4, 6, 10):
            for stream in (1, 2, 3, 5):
                row = ASKED + frame(2, 0, stream, (four(stream) + [0] * 6)[:length])
                self.assertEqual(sent(row), [stream_fails(stream, 6)], (length, stream))

    def test_on_itself(self):
        for stream in (1, 2, 3, 5, 2147483647):
            for upper in (0, 128):
                body = four(stream) + [0]
                body[0] |= upper
                self.assertEqual(sent(ASKED + frame(2, 0, stream, body)), [stream_fails(stream, 1)], stream)

    def test_the_stream_is_gone(self):
        for body in ([], four(3) + [0]):
            row = ASKED + frame(2, 0, 3, body) + frame(3, 0, 3, four(1)) + frame(0, 0, 3)
            outcome = Outcome(row)
            self.assertEqual(outcome.sent[1:], [stream_fails(3, 5)])
            self.assertEqual(outcome.told, [ASKED_TOLD])

    def test_a_stream_that_is_idle_stays_so(self):
        row = ASKED + frame(2, 0, 5)
        self.assertEqual(sent(row + frame(0, 0, 5)), [stream_fails(5, 6), line_fails(1, 3)])
        self.assertEqual(told(row + request(5)), [ASKED_TOLD, [1, 5, 1, 3, 0]])


class ResetFrameTest(unittest.TestCase):
    def test_it_is_told(self):
        for code in (0, 8, 2147483648, 4294967295):
            outcome = Outcome(ASKED + frame(3, 0, 3, four(code)))
            self.assertEqual(outcome.sent, [])
            self.assertEqual(outcome.told, [ASKED_TOLD, [4, 3, 1, 0, code]])

    def test_of_a_stream_of_which_no_more_may_come(self):
        self.assertEqual(told(request(3) + frame(3, 0, 3, four(2)))[1:], [[4, 3, 1, 0, 2]])

    def test_stream_0(self):
        for body in ([], four(1)):
            self.assertEqual(sent(ASKED + frame(3, 0, 0, body)), [line_fails(1, 3)])

    def test_other_than_four_bytes(self):
        for length in (0, 3, 5, 8):
            for stream in (1, 2, 3, 5):
                self.assertEqual(sent(ASKED + frame(3, 0, stream, [0] * length)), [line_fails(6, 3)])

    def test_idle_streams(self):
        for stream in (2, 4, 5, 2147483647):
            outcome = Outcome(ASKED + frame(3, 0, stream, four(1)))
            self.assertEqual(outcome.sent, [line_fails(1, 3)])
            self.assertEqual(outcome.told, [ASKED_TOLD])

    def test_streams_that_are_gone(self):
        for stream, row in ((1, ASKED), (3, ASKED + frame(3, 0, 3, four(1)))):
            before = Outcome(row)
            outcome = Outcome(row + frame(3, 0, stream, four(9)))
            self.assertEqual((outcome.sent, outcome.told), ([], before.told))

    def test_the_stream_is_gone(self):
        self.assertEqual(sent(ASKED + frame(3, 0, 3, four(1)) + frame(0, 0, 3)), [stream_fails(3, 5)])


class PingFrameTest(unittest.TestCase):
    BODY = [1, 2, 3, 4, 255, 0, 7, 8]

    def test_the_same_is_sent_back(self):
        for flags in (0, 2, 254):
            self.assertEqual(sent(frame(6, flags, 0, self.BODY)), [(6, 1, 0, self.BODY)])

    def test_an_answer_is_not(self):
        for flags in (1, 3, 255):
            self.assertEqual(sent(frame(6, flags, 0, self.BODY)), [])

    def test_another_stream(self):
        for flags in (0, 1):
            for body in (self.BODY, []):
                self.assertEqual(sent(ASKED + frame(6, flags, 3, body)), [line_fails(1, 3)])

    def test_other_than_eight_bytes(self):
        for flags in (0, 1):
            for length in (0, 7, 9, 16):
                self.assertEqual(sent(frame(6, flags, 0, [0] * length)), [line_fails(6)])


class AwayFrameTest(unittest.TestCase):
    def test_the_code_is_told(self):
        for code in (0, 1, 2147483648, 4294967295):
            for rest in ([], [1, 2, 3]):
                outcome = Outcome(frame(7, 0, 0, four(77) + four(code) + rest))
                self.assertEqual((outcome.sent, outcome.told), ([], [[5, 0, 0, 0, code]]))

    def test_another_stream(self):
        for body in ([], [0] * 8):
            outcome = Outcome(ASKED + frame(7, 0, 3, body))
            self.assertEqual((outcome.sent, outcome.told), ([line_fails(1, 3)], [ASKED_TOLD]))

    def test_fewer_than_eight_bytes(self):
        for length in (0, 4, 7):
            outcome = Outcome(frame(7, 0, 0, [0] * length))
            self.assertEqual((outcome.sent, outcome.told), ([line_fails(6)], []))

    def test_more_still_comes(self):
        self.assertEqual(told(frame(7, 0, 0, [0] * 8) + request(1)), [[5, 0, 0, 0, 0], [1, 1, 1, 3, 0]])


class OtherFramesTest(unittest.TestCase):
    def test_push(self):
        for stream in (0, 1, 2, 3, 5):
            for flags in (0, 4):
                self.assertEqual(sent(ASKED + frame(5, flags, stream, [0] * 4)), [line_fails(1, 3)])

    def test_more_where_no_block_goes_on(self):
        for stream in (0, 2, 3, 5):
            for flags in (0, 4):
                self.assertEqual(sent(ASKED + frame(9, flags, stream)), [line_fails(1, 3)])
        whole = frame(1, 4, 1, [130, 134, 132])
        self.assertEqual(sent(whole + frame(9, 4, 1)), [line_fails(1, 1)])

    def test_unknown_kinds_are_left_aside(self):
        for kind in range(10, 256):
            outcome = Outcome(frame(kind, kind, 0, [1] * 3) + frame(kind, 255, 6) + request(1))
            self.assertEqual((outcome.sent, outcome.told), ([], [[1, 1, 1, 3, 0]]), kind)


if __name__ == "__main__":
    unittest.main()
