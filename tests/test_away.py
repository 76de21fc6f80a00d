"""Promise 10: away."""

import unittest

from tests.helpers import (
    BEGIN, EVENT, LARGEST, OWN_SETTINGS, PING, START, STATUS, after, after_full, answer, away, data, feed, four,
    frame, header, line_fails, request, reset, run, send, spelled, split_frames, take,
)


class AwayTest(unittest.TestCase):
    def test_byte_by_byte(self):
        parts = run(BEGIN, take(), away(258), take())
        self.assertEqual(parts[2:], [[0], [17, 0, 0, 8, 7, 0, 0, 0, 0, 0, 0, 0, 0, 0, 0, 0, 1, 2]])

    def test_codes(self):
        for code in (0, 1, 8, 255, 256, 65536, LARGEST):
            self.assertEqual(after(request(1), away(code)), ([[0]], [line_fails(code, 1)]))

    def test_a_code_below_0(self):
        for code in (-1, -2, -LARGEST - 1):
            answered, frames = after(request(1), away(code), answer(1, (STATUS,)), away(code), feed(request(3)),
                                     away(2))
            self.assertEqual(answered, [[-1], [0], [-1], [len(request(3))], [0]])
            self.assertEqual(frames, [(1, 4, 1, [32, 136]), line_fails(2, 3)])

    def test_the_highest_stream_so_far(self):
        self.assertEqual(after([], away(4))[1], [line_fails(4, 0)])
        for stream in (1, 77, LARGEST):
            self.assertEqual(after(request(stream), away(4))[1], [line_fails(4, stream)])
        self.assertEqual(after(request(5) + request(3) + request(9) + request(7), away(4))[1], [line_fails(4, 9)])

    def test_the_highest_stream_is_gone(self):
        gone = (frame(3, 0, 5, four(8)), frame(0, 0, 5, [1]))
        for row in gone:
            self.assertEqual(after(request(1) + request(5) + row, away(4))[1], [line_fails(4, 5)])
        self.assertEqual(after(request(1) + frame(1, 5, 5, [130]), away(4))[1], [line_fails(4, 5)])
        self.assertEqual(after(request(1) + request(5), reset(5, 1), away(4))[1][1], line_fails(4, 5))
        self.assertEqual(after(request(1) + request(5), answer(5, (STATUS,), 1), away(4))[1][1], line_fails(4, 5))

    def test_a_block_that_goes_on_is_not_so_far(self):
        self.assertEqual(after(request(1) + frame(1, 1, 5, [130]), away(4))[1], [line_fails(4, 1)])

    def test_a_second_time(self):
        for code in (0, 5, -1, LARGEST):
            self.assertEqual(after(request(1), away(0), away(code), away(code)),
                             ([[0], [-4], [-4]], [line_fails(0, 1)]))

    def test_the_line_has_failed_by_what_came(self):
        for code in (0, -1):
            self.assertEqual(after(request(1) + frame(5, 0, 0), away(code)), ([[-4]], []))
        self.assertEqual(run(BEGIN, feed([0]), away(0))[2], [-4])

    def test_how_much_is_to_be_sent_does_not_matter(self):
        parts = after_full(feed(PING), away(2), take(), take())
        self.assertEqual(parts[1], [0])
        self.assertEqual(split_frames(parts[3][1:])[-1], line_fails(2, 3))

    def test_behind_what_is_still_to_be_sent(self):
        answered, frames = after(request(1), feed(PING), answer(1, (STATUS,)), away(2))
        self.assertEqual([sent[0] for sent in frames], [6, 1, 7])


class AfterwardsTest(unittest.TestCase):
    def test_the_calls_that_send(self):
        answered, frames = after(request(1) + request(3), answer(3, (STATUS,)), away(0), answer(1, (STATUS,)),
                                 answer(1, []), send(3, [1]), send(3, [], 1), send(1, [1]), reset(1, 0),
                                 reset(3, -1), reset(7, 0), away(1))
        self.assertEqual(answered[2:], [[-4]] * 9)
        self.assertEqual(frames[1:], [line_fails(0, 3)])

    def test_take(self):
        answered, frames = after([], away(6), take(9), take(0), take(65537), take(), take())
        self.assertEqual(answered[1:], [
            [9, 0, 0, 8, 7, 0, 0, 0, 0, 0], [0], [0], [8, 0, 0, 0, 0, 0, 0, 0, 6], [0],
        ])

    def test_event_header_and_data(self):
        row = request(1, spelled(b"a", b"b"), False) + frame(0, 0, 1, [1, 2]) + frame(3, 0, 1, four(9))
        answered, frames = after(row, away(0), EVENT, header(3), header(4), EVENT, data(), data(1), EVENT, EVENT,
                                 data())
        self.assertEqual(answered[1:], [
            [1, 1, 0, 4, 0], [2, 1, 97, 98], [-1], [3, 1, 0, 2, 0], [2, 1, 2], [-2], [4, 1, 1, 0, 9], [0] * 5, [-1],
        ])

    def test_what_is_told_now_is_told_still(self):
        answered, frames = after(request(1), EVENT, away(0), header(2), EVENT)
        self.assertEqual(answered[2:], [[6, 5] + list(b":path/"), [0] * 5])

    def test_nothing_is_told_by_it(self):
        self.assertEqual(after([], away(9), EVENT)[0], [[0], [0] * 5])

    def test_what_comes_is_left_aside_and_counted(self):
        for came in ([], [1], request(3), frame(5, 0, 0), frame(6, 0, 0, [1] * 8), [255] * 16384):
            answered, frames = after(request(1), away(0), feed(came), feed(came), EVENT, EVENT)
            self.assertEqual(answered[1:], [[len(came)]] * 2 + [[1, 1, 1, 3, 0], [0] * 5])
            self.assertEqual(frames, [line_fails(0, 1)])

    def test_too_many_at_once(self):
        self.assertEqual(after([], away(0), feed([1] * 16385), feed([1] * 16384))[0], [[0], [-1], [16384]])

    def test_the_rest_of_a_frame_is_left_aside(self):
        row = frame(6, 0, 0, [1] * 8)
        answered, frames = after(row[:12], away(0), feed(row[12:]), feed(row))
        self.assertEqual((answered, frames), ([[0], [5], [17]], [line_fails(0, 0)]))

    def test_the_rest_of_the_first_bytes_is_left_aside(self):
        parts = run(BEGIN, feed(START[:7]), away(0), feed(START[7:]), feed([1, 2]), take())
        self.assertEqual(parts[2:5], [[0], [len(START) - 7], [2]])
        self.assertEqual(split_frames(parts[5][1:]), [(4, 0, 0, [0, 3, 0, 0, 0, 32]), line_fails(0, 0)])

    def test_it_waits_while_too_much_is_to_be_sent(self):
        parts = after_full(away(0), feed([1, 2]), take(16), feed([1, 2]), take(1), feed([1, 2]))
        self.assertEqual([parts[k] for k in (0, 1, 3, 5)], [[0], [0], [0], [2]])

    def test_begin(self):
        parts = run(BEGIN, feed(START + request(1)), answer(1, (STATUS,)), away(0), BEGIN, take(), feed(START),
                    take(), answer(1, (STATUS,)), feed(request(1)), EVENT, answer(1, (STATUS,), 1), take(), away(3),
                    take())
        self.assertEqual(parts[4:], [
            [0], [15] + OWN_SETTINGS, [len(START)], [9] + frame(4, 1, 0), [-1], [len(request(1))], [1, 1, 1, 3, 0], [0],
            [11] + frame(1, 5, 1, [32, 136]), [0], [17] + frame(7, 0, 0, four(1) + four(3)),
        ])


if __name__ == "__main__":
    unittest.main()
