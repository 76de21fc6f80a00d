"""Promise 2: bytes come only while not too much is still to be sent or told."""

import unittest

from manyonline.coming import feed_bytes
from manyonline.line import begin_line
from manyonline.telling import next_event, take_bytes
from tests.helpers import (
    BEGIN, EVENT, GET, LARGEST, START, feed, four, frame, indexed, kept, line_fails, request, run, spelled,
    split_frames, take,
)

# What a request of GET alone weighs: :method GET, :scheme http, :path /
GET_WEIGHT = 42 + 43 + 38


def fed(line, row):
    taken = 0
    for place in range(0, len(row), 16384):
        taken += feed_bytes(line, row[place:place + 16384])
    return taken


class ToBeSentTest(unittest.TestCase):
    # A stream that's gone: data of one byte for it make 26 that are to be sent.
    GONE = START + request(1) + frame(3, 0, 1, four(0))
    DATA = frame(0, 0, 1, [7])

    # The own settings and their like for the other end's are 15 and 9; so just 65536 are to be sent.
    ROW = GONE + DATA * 2519 + frame(4, 0, 0) * 2

    def test_65536(self):
        row = self.ROW
        line = begin_line()
        self.assertEqual(fed(line, row), len(row))
        self.assertEqual(len(line.unsent), 65536)
        ping = frame(6, 0, 0, [5] * 8)
        self.assertEqual(feed_bytes(line, ping + ping), len(ping))
        self.assertEqual(len(line.unsent), 65536 + 17)
        self.assertEqual(feed_bytes(line, ping), 0)

    def test_65536_by_calls(self):
        row = self.ROW
        ping = frame(6, 0, 0, [5] * 8)
        parts = run(BEGIN, feed(row[:16384]), feed(row[16384:]), feed(ping * 2), feed(ping), feed([]),
                    take(16), feed(ping), take(1), feed(ping * 2), take(), take(), feed(ping), take())
        self.assertEqual(parts[1:6], [[16384], [len(row) - 16384], [17], [0], [0]])
        self.assertEqual(parts[6][0], 16)
        self.assertEqual(parts[7], [0])
        self.assertEqual(parts[8][0], 1)
        self.assertEqual(parts[9], [17])
        self.assertEqual(parts[10][0], 65536)
        self.assertEqual(parts[11], [17] + frame(6, 1, 0, [5] * 8))
        self.assertEqual(parts[12:], [[17], [17] + frame(6, 1, 0, [5] * 8)])

    def test_one_more(self):
        line = begin_line()
        row = self.ROW
        fed(line, row)
        self.assertEqual(feed_bytes(line, frame(6, 0, 0, [5] * 8)), 17)
        take_bytes(line, 16)
        self.assertEqual(len(line.unsent), 65537)
        self.assertEqual(feed_bytes(line, [0]), 0)
        take_bytes(line, 1)
        self.assertEqual(feed_bytes(line, [0]), 1)

    def test_it_stops_between_two_bytes(self):
        line = begin_line()
        row = self.GONE + self.DATA * 3000
        taken = fed(line, row)
        self.assertEqual((taken - len(self.GONE)) % 10, 0)
        self.assertEqual(len(line.unsent), 24 + 26 * ((taken - len(self.GONE)) // 10))
        self.assertGreater(len(line.unsent), 65536)
        self.assertLessEqual(len(line.unsent), 65536 + 26)
        # Nothing of what wasn't taken has come.
        while take_bytes(line, 65536)[0] > 0:
            pass
        self.assertEqual(feed_bytes(line, frame(6, 0, 0, [1] * 8)), 17)
        self.assertEqual(take_bytes(line, 65536), [17] + frame(6, 1, 0, [1] * 8))

    def test_once_the_line_has_failed_too(self):
        line = begin_line()
        fed(line, self.ROW)
        self.assertEqual(feed_bytes(line, frame(5, 0, 0) + [1, 2, 3]), 9)
        self.assertEqual(feed_bytes(line, [1, 2, 3]), 0)
        taken = take_bytes(line, 17)
        self.assertEqual(taken[0], 17)
        self.assertEqual(feed_bytes(line, [1, 2, 3]), 3)
        rest = take_bytes(line, 65536)[1:]
        self.assertEqual(split_frames(rest[-17:]), [line_fails(1, 1)])
        self.assertEqual(take_bytes(line, 65536), [0])


class ToBeToldTest(unittest.TestCase):
    def heavy(self, weight):
        """Headers that weigh so much, for a request behind GET."""
        block = kept(b"a", b"b" * 4031)
        rest = weight - 4064
        while rest >= 4064 + 64:
            block = block + indexed(62)
            rest -= 4064
        return block + spelled(b"c", b"d" * (rest - 33))

    def requests(self, weight):
        """A request of 60000 and one of what is missing."""
        first = request(1, self.heavy(60000 - GET_WEIGHT), False)
        return START + first + request(3, spelled(b"c", b"d" * (weight - 60000 - GET_WEIGHT - 33)), False)

    def test_headers_of_65536(self):
        row = self.requests(65536)
        parts = run(BEGIN, feed(row), feed(frame(6, 0, 0, [0] * 8)), take())
        self.assertEqual(parts[1:3], [[len(row)], [17]])
        self.assertEqual(parts[3][0], 15 + 9 + 17)

    def test_headers_of_65537(self):
        row = self.requests(65537)
        parts = run(BEGIN, feed(row + [0, 0]), feed([0]), EVENT, feed([0, 0]))
        self.assertEqual(parts[1:3], [[len(row)], [0]])
        self.assertEqual(parts[3][:3], [1, 1, 0])
        self.assertEqual(parts[4], [2])

    def test_data_their_bytes_and_32(self):
        for extra, more in ((0, 3), (1, 0)):
            weight = 65536 + extra - 32 - 60000
            row = START + request(1, self.heavy(60000 - GET_WEIGHT), False) + frame(0, 0, 1, [1] * weight)
            parts = run(BEGIN, feed(row), feed([0, 0, 0]))
            self.assertEqual(parts[1:], [[len(row)], [more]])

    def test_padding_weighs_nothing(self):
        weight = 65536 - 32 - 60000
        body = [100] + [1] * weight + [0] * 100
        row = START + request(1, self.heavy(60000 - GET_WEIGHT), False) + frame(0, 8, 1, body)
        self.assertEqual(run(BEGIN, feed(row), feed([0, 0, 0]))[1:], [[len(row)], [3]])

    def test_no_data_weigh_32(self):
        self.check_weight_of_32(frame(0, 0, 1))

    def test_resets_32(self):
        self.check_weight_of_32(frame(3, 0, 1, four(4294967295)))

    def test_going_away_32(self):
        self.check_weight_of_32(frame(7, 0, 0, four(0) + four(1) + [1] * 100))

    def check_weight_of_32(self, row):
        for extra, more in ((0, 3), (1, 0)):
            before = START + request(1, self.heavy(65536 + extra - 32 - GET_WEIGHT), False)
            parts = run(BEGIN, feed(before + row), feed([0, 0, 0]))
            self.assertEqual(parts[1:], [[len(before + row)], [more]])

    def test_trailers_their_headers(self):
        for extra, more in ((0, 3), (1, 0)):
            before = START + request(1, self.heavy(65000 - GET_WEIGHT), False)
            row = before + frame(1, 5, 1, spelled(b"a", b"b" * (536 + extra - 33 - 100)) + spelled(b"cd", b"e" * 66))
            parts = run(BEGIN, feed(row), feed([0, 0, 0]))
            self.assertEqual(parts[1:], [[len(row)], [more]])

    def test_trailers_of_no_headers_weigh_nothing(self):
        before = START + request(1, self.heavy(65536 - GET_WEIGHT), False) + frame(1, 5, 1)
        parts = run(BEGIN, feed(before), feed([0, 0, 0]))
        self.assertEqual(parts[1:], [[len(before)], [3]])

    def test_what_is_told_weighs_no_longer(self):
        away = frame(7, 0, 0, [0] * 8)
        line = begin_line()
        row = START + away * 2049
        self.assertEqual(fed(line, row), len(row))
        self.assertEqual(feed_bytes(line, away), 0)
        self.assertEqual(next_event(line), [5, 0, 0, 0, 0])
        self.assertEqual(feed_bytes(line, away + away), len(away))
        for turn in range(2049):
            self.assertEqual(next_event(line), [5, 0, 0, 0, 0])
        self.assertEqual(next_event(line), [0, 0, 0, 0, 0])
        self.assertEqual(line.untold_weight, 0)
        self.assertEqual(fed(line, away * 2049), len(away) * 2049)
        self.assertEqual(feed_bytes(line, away), 0)

    def test_nothing_to_tell_weighs_nothing(self):
        parts = run(BEGIN, EVENT, EVENT, feed(self.requests(65536) + [0]))
        self.assertEqual(parts[3], [len(self.requests(65536)) + 1])

    def test_requests_told_and_untold(self):
        row = self.requests(65537)
        parts = run(BEGIN, feed(row), EVENT, EVENT, feed(request(5, self.heavy(65536 - GET_WEIGHT))), feed([0]), EVENT)
        self.assertEqual([part[0] for part in parts[2:4]], [1, 1])
        self.assertEqual(parts[5], [1])
        self.assertEqual(parts[6][:3], [1, 5, 1])

    def test_streams_that_fail_weigh_nothing(self):
        line = begin_line()
        row = list(START)
        for stream in range(1, 401, 2):
            row = row + frame(1, 5, stream, GET + spelled(b"A", b"b" * 500))
        for place in range(0, len(row), 16384):
            piece = row[place:place + 16384]
            self.assertEqual(feed_bytes(line, piece), len(piece))
        self.assertEqual(line.untold_weight, 0)

    def test_once_the_line_has_failed_too(self):
        before = START + request(1, self.heavy(65536 - GET_WEIGHT), False)
        row = before + frame(7, 0, 0, [0] * 8)
        line = begin_line()
        self.assertEqual(feed_bytes(line, row + frame(5, 0, 0)), len(row))
        next_event(line)
        self.assertEqual(feed_bytes(line, frame(5, 0, 0) + [0] * 9), 18)
        self.assertEqual(feed_bytes(line, frame(8, 0, 0, four(LARGEST))), 13)
        self.assertEqual(split_frames(take_bytes(line, 65536)[1:])[2:], [line_fails(1, 1)])


if __name__ == "__main__":
    unittest.main()
