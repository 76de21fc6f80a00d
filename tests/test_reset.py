"""Promise 9: reset."""

import unittest

from tests.helpers import (
    BEGIN, EVENT, GET, LARGEST, PING, START, STATUS, after, after_full, answer, away, data, feed, four, frame, header,
    request, reset, room, run, send, setting, spelled, stream_fails, take,
)

NEVER_STREAMS = (0, 2, 4, 3, 5, LARGEST, LARGEST - 1, -1, -2, -LARGEST - 1)


class ResetTest(unittest.TestCase):
    def test_byte_by_byte(self):
        parts = run(BEGIN, feed(START + request(1)), take(), reset(1, 8), take())
        self.assertEqual(parts[3:], [[0], [13, 0, 0, 4, 3, 0, 0, 0, 0, 1, 0, 0, 0, 8]])

    def test_codes(self):
        for code in (0, 1, 8, 255, 256, 65536, LARGEST):
            for last in (False, True):
                self.assertEqual(after(request(1, last=last), reset(1, code)), ([[0]], [stream_fails(1, code)]))

    def test_a_code_below_0(self):
        for code in (-1, -2, -LARGEST - 1):
            self.assertEqual(after(request(1), reset(1, code), reset(1, 4)), ([[-1], [0]], [stream_fails(1, 4)]))

    def test_streams(self):
        for stream in (1, 3, 257, LARGEST):
            self.assertEqual(after(request(stream), reset(stream, 7)), ([[0]], [stream_fails(stream, 7)]))

    def test_streams_that_never_were(self):
        for stream in NEVER_STREAMS:
            for code in (0, 5, -1):
                self.assertEqual(after(request(1), reset(stream, code)), ([[-1]], []))
        self.assertEqual(run(BEGIN, reset(1, 0), take())[1:], [[-1], [15] + frame(4, 0, 0, setting(3, 32))])

    def test_a_second_time(self):
        self.assertEqual(after(request(1), reset(1, 1), reset(1, 1), reset(1, 2)),
                         ([[0], [-1], [-1]], [stream_fails(1, 1)]))

    def test_streams_that_are_gone(self):
        gone = (frame(3, 0, 1, four(8)), frame(0, 0, 1, [1]), frame(8, 0, 1, four(0)), frame(2, 0, 1), frame(1, 5, 1))
        for row in gone:
            self.assertEqual(after(request(1) + row, reset(1, 1)), ([[-1]], []))
        for row in (frame(1, 5, 1, [130]), request(3) + request(1)):
            self.assertEqual(after(row, reset(1, 1)), ([[-1]], []))

    def test_streams_that_have_ended(self):
        for last in (False, True):
            answered, frames = after(request(1, last=last), answer(1, (STATUS,), 1), reset(1, 1))
            self.assertEqual(answered, [[0], [-1]])
            answered, frames = after(request(1, last=last), answer(1, (STATUS,)), send(1, [1], 1), reset(1, 1))
            self.assertEqual(answered, [[0], [1], [-1]])

    def test_while_it_is_answered(self):
        answered, frames = after(request(1), answer(1, (STATUS,)), send(1, [1]), reset(1, 2), send(1, [1]))
        self.assertEqual(answered, [[0], [1], [0], [-1]])
        self.assertEqual(frames, [(1, 4, 1, [32, 136]), (0, 0, 1, [1]), stream_fails(1, 2)])

    def test_behind_what_is_still_to_be_sent(self):
        answered, frames = after(request(1), feed(PING), reset(1, 2), feed(PING))
        self.assertEqual([sent[0] for sent in frames], [6, 3, 6])

    def test_the_line_has_failed(self):
        for fail in (away(0), feed(frame(5, 0, 0)), feed([255] * 9)):
            for call in (reset(1, 0), reset(1, -1), reset(3, 0), reset(0, -1), reset(-1, LARGEST)):
                answered, frames = after(request(1), fail, call)
                self.assertEqual(answered[1], [-4])
                self.assertEqual([sent[0] for sent in frames], [7])

    def test_how_much_is_to_be_sent_does_not_matter(self):
        parts = after_full(feed(PING), reset(3, 2), reset(1, 2), reset(3, 2), take(), take())
        self.assertEqual(parts[1:4], [[0], [-1], [-1]])
        self.assertEqual(parts[5][-13:], frame(3, 0, 3, four(2)))

    def test_a_new_line(self):
        self.assertEqual(after(request(1), BEGIN, reset(1, 0))[0], [[0], [-1]])


class AfterwardsTest(unittest.TestCase):
    def test_what_comes_for_it(self):
        came = frame(0, 0, 1, [1, 2]) + frame(8, 0, 1, four(0)) + frame(3, 0, 1, four(1)) + frame(1, 5, 1)
        for last in (False, True):
            answered, frames = after(request(1, last=last), reset(1, 8), feed(came), EVENT, EVENT)
            self.assertEqual(answered[1:], [[len(came)], [1, 1, 1 if last else 0, 3, 0], [0] * 5])
            self.assertEqual(frames, [stream_fails(1, 8), room(0, 2), stream_fails(1, 5), stream_fails(1, 5)])

    def test_a_request_on_it(self):
        answered, frames = after(request(1), reset(1, 8), feed(request(1)))
        self.assertEqual(frames, [stream_fails(1, 8), stream_fails(1, 5)])

    def test_what_was_to_be_told_is_told(self):
        row = request(1, spelled(b"a", b"b"), False) + frame(0, 0, 1, [1, 2]) + frame(1, 5, 1, spelled(b"c", b"d"))
        answered, frames = after(row, reset(1, 8), EVENT, header(3), EVENT, data(), EVENT, header(0), EVENT)
        self.assertEqual(answered[1:], [
            [1, 1, 0, 4, 0], [2, 1, 97, 98], [3, 1, 0, 2, 0], [2, 1, 2], [2, 1, 1, 1, 0], [2, 1, 99, 100], [0] * 5,
        ])

    def test_what_is_told_now_is_told_still(self):
        answered, frames = after(request(1), EVENT, reset(1, 8), header(0), EVENT)
        self.assertEqual(answered[2:], [[10, 7] + list(b":methodGET"), [0] * 5])

    def test_nothing_is_told_by_it(self):
        answered, frames = after(request(1), EVENT, reset(1, 8), EVENT)
        self.assertEqual(answered[2], [0] * 5)

    def test_a_block_that_goes_on(self):
        answered, frames = after(request(1, last=False) + frame(1, 1, 1, [0, 1]), reset(1, 8),
                                 feed(frame(9, 4, 1, [97, 0])), EVENT, EVENT)
        self.assertEqual(answered[2:], [[1, 1, 0, 3, 0], [0] * 5])
        self.assertEqual(frames, [stream_fails(1, 8), stream_fails(1, 5)])

    def test_a_block_of_another_stream_that_goes_on(self):
        answered, frames = after(request(1) + frame(1, 1, 3, GET), reset(3, 8), reset(1, 8), feed(frame(9, 4, 3)),
                                 EVENT, EVENT, reset(3, 9))
        self.assertEqual(answered, [[-1], [0], [9], [1, 1, 1, 3, 0], [1, 3, 1, 3, 0], [0]])
        self.assertEqual(frames, [stream_fails(1, 8), stream_fails(3, 9)])

    def test_half_a_frame(self):
        row = frame(0, 0, 1, [1, 2, 3])
        answered, frames = after(request(1, last=False) + row[:10], reset(1, 8), feed(row[10:]))
        self.assertEqual(frames, [stream_fails(1, 8), room(0, 3), stream_fails(1, 5)])

    def test_there_is_room_for_another_stream(self):
        asked = [byte for stream in range(1, 64, 2) for byte in request(stream)]
        self.assertEqual(after(asked, feed(request(65)))[1], [stream_fails(65, 7)])
        self.assertEqual(after(asked, reset(63, 0), feed(request(65)))[1], [stream_fails(63, 0)])

    def test_its_window_changes_no_longer(self):
        full = request(1) + frame(8, 0, 1, four(LARGEST - 65535))
        answered, frames = after(full, reset(1, 0), feed(frame(4, 0, 0, setting(4, 65536))))
        self.assertEqual(frames[1:], [(4, 1, 0, [])])

    def test_the_lines_window_stays_used_up(self):
        answered, frames = after(request(1) + request(3), answer(1, (STATUS,)), answer(3, (STATUS,)),
                                 send(1, [1] * 65530), reset(1, 0), take(), send(3, [1] * 10))
        self.assertEqual([answered[k] for k in (2, 3, 5)], [[65530], [0], [5]])

    def test_other_streams_stay(self):
        answered, frames = after(request(1) + request(3), reset(1, 0), answer(3, (STATUS,), 1))
        self.assertEqual((answered, frames), ([[0], [0]], [stream_fails(1, 0), (1, 5, 3, [32, 136])]))

    def test_the_line_has_not_failed(self):
        answered, frames = after(request(1), reset(1, 1), feed(request(3)), EVENT, EVENT, away(3))
        self.assertEqual(answered[3], [1, 3, 1, 3, 0])
        self.assertEqual(frames, [stream_fails(1, 1), (7, 0, 0, four(3) + four(3))])


if __name__ == "__main__":
    unittest.main()
