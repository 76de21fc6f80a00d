"""Promise 4: event."""

import unittest

from tests.helpers import BEGIN, EVENT, START, feed, four, frame, header, request, run, spelled

NOTHING = [0, 0, 0, 0, 0]


class EventTest(unittest.TestCase):
    def events(self, row, count=6):
        return run(BEGIN, feed(START + row), *[EVENT] * count)[2:]

    def test_nothing(self):
        self.assertEqual(run(BEGIN, EVENT, EVENT)[1:], [NOTHING, NOTHING])
        self.assertEqual(self.events([], 2), [NOTHING, NOTHING])

    def test_a_request(self):
        self.assertEqual(self.events(request(1))[:2], [[1, 1, 1, 3, 0], NOTHING])
        self.assertEqual(self.events(request(9, spelled(b"a", b"b"), False))[:2], [[1, 9, 0, 4, 0], NOTHING])
        self.assertEqual(self.events(request(2147483647))[0], [1, 2147483647, 1, 3, 0])

    def test_trailers(self):
        row = request(5, last=False) + frame(1, 5, 5, spelled(b"a", b"b") * 2)
        self.assertEqual(self.events(row)[1:3], [[2, 5, 1, 2, 0], NOTHING])

    def test_data(self):
        row = request(5, last=False) + frame(0, 0, 5, [1, 2, 3]) + frame(0, 0, 5) + frame(0, 1, 5, [4] * 1000)
        self.assertEqual(self.events(row)[1:5], [[3, 5, 0, 3, 0], [3, 5, 0, 0, 0], [3, 5, 1, 1000, 0], NOTHING])

    def test_a_reset(self):
        for code in (0, 8, 2147483647, 2147483648, 4294967295):
            row = request(5, last=False) + frame(3, 0, 5, four(code))
            self.assertEqual(self.events(row)[1:3], [[4, 5, 1, 0, code], NOTHING])

    def test_going_away(self):
        for code in (0, 8, 2147483647, 2147483648, 4294967295):
            row = frame(7, 0, 0, four(9) + four(code))
            self.assertEqual(self.events(row)[:2], [[5, 0, 0, 0, code], NOTHING])

    def test_one_after_another_as_they_came(self):
        row = request(1, last=False) + request(3, last=False) + frame(0, 0, 3, [1]) + frame(0, 0, 1, [1, 2])
        row = row + frame(7, 0, 0, four(1) + four(2)) + frame(3, 0, 3, four(4)) + frame(1, 5, 1)
        self.assertEqual(self.events(row, 8), [
            [1, 1, 0, 3, 0], [1, 3, 0, 3, 0], [3, 3, 0, 1, 0], [3, 1, 0, 2, 0],
            [5, 0, 0, 0, 2], [4, 3, 1, 0, 4], [2, 1, 1, 0, 0], NOTHING,
        ])

    def test_what_came_of_a_stream_is_told_though_it_is_gone(self):
        row = request(1, last=False) + frame(0, 0, 1, [1]) + frame(2, 0, 1)
        self.assertEqual(self.events(row, 3), [[1, 1, 0, 3, 0], [3, 1, 0, 1, 0], NOTHING])

    def test_what_was_told_is_told_no_longer(self):
        row = request(1, last=False) + frame(0, 0, 1, [1])
        parts = run(BEGIN, feed(START + row), EVENT, header(0), EVENT, header(0), EVENT, header(0))
        self.assertEqual([part[0] for part in parts[2:]], [1, 10, 3, -1, 0, -1])

    def test_nothing_told_now_once_all_is_told(self):
        parts = run(BEGIN, feed(START + request(1)), EVENT, header(0), header(0), EVENT, header(0), EVENT)
        self.assertEqual([part[0] for part in parts[2:]], [1, 10, 10, 0, -1, 0])

    def test_what_comes_later_is_told_later(self):
        parts = run(BEGIN, EVENT, feed(START + request(1)), EVENT, EVENT, feed(request(3)), EVENT, EVENT)
        self.assertEqual([parts[k] for k in (1, 3, 4, 6, 7)],
                         [NOTHING, [1, 1, 1, 3, 0], NOTHING, [1, 3, 1, 3, 0], NOTHING])

    def test_what_comes_does_not_change_what_is_told_now(self):
        parts = run(BEGIN, feed(START + request(1)), EVENT, feed(request(3, spelled(b"x", b"y"))), header(3), header(2))
        self.assertEqual(parts[4:], [[-1], [6, 5] + list(b":path/")])


if __name__ == "__main__":
    unittest.main()
