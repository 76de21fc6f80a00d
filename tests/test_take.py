"""Promise 3: take."""

import unittest

from manyonline.coming import feed_bytes
from manyonline.line import begin_line
from manyonline.telling import take_bytes
from tests.helpers import BEGIN, OWN_SETTINGS, START, feed, frame, request, run, take

ACKNOWLEDGEMENT = frame(4, 1, 0)


class TakeTest(unittest.TestCase):
    def test_all_there_is(self):
        for most in (15, 16, 100, 65535, 65536):
            self.assertEqual(run(BEGIN, take(most), take(most)), [[0], [15] + OWN_SETTINGS, [0]])

    def test_most_at_most(self):
        for most in (1, 2, 9, 14):
            parts = run(BEGIN, take(most), take())
            self.assertEqual(parts[1:], [[most] + OWN_SETTINGS[:most], [15 - most] + OWN_SETTINGS[most:]])

    def test_one_by_one(self):
        parts = run(BEGIN, *[take(1)] * 17)
        self.assertEqual(parts[1:], [[1, byte] for byte in OWN_SETTINGS] + [[0], [0]])

    def test_most_outside_its_range(self):
        for most in (0, -1, 65537, 65538, 2147483647, -2147483648, -65536):
            self.assertEqual(run(BEGIN, take(most), take()), [[0], [0], [15] + OWN_SETTINGS])

    def test_nothing_to_be_sent(self):
        self.assertEqual(run(BEGIN, take(), take(), take(1), take(0))[2:], [[0], [0], [0]])

    def test_in_the_order_in_which_it_was_sent(self):
        pings = [frame(6, 0, 0, [k] * 8) for k in range(3)]
        answered = [byte for k in range(3) for byte in frame(6, 1, 0, [k] * 8)]
        parts = run(BEGIN, feed(START + pings[0]), take(20), feed(pings[1] + pings[2]), take())
        everything = OWN_SETTINGS + ACKNOWLEDGEMENT + answered
        self.assertEqual(parts[2], [20] + everything[:20])
        self.assertEqual(parts[4], [len(everything) - 20] + everything[20:])

    def test_nothing_is_told_by_it(self):
        parts = run(BEGIN, feed(START + request(1)), take(), [3])
        self.assertEqual(parts[2], [24] + OWN_SETTINGS + ACKNOWLEDGEMENT)
        self.assertEqual(parts[3], [1, 1, 1, 3, 0])

    def test_65536_of_more(self):
        line = begin_line()
        row = START + frame(2, 0, 9) * 5100
        for place in range(0, len(row), 16384):
            feed_bytes(line, row[place:place + 16384])
        count = len(line.unsent)
        self.assertGreater(count, 65536)
        everything = list(line.unsent)
        self.assertEqual(take_bytes(line, 65537), [0])
        self.assertEqual(take_bytes(line, 65536), [65536] + everything[:65536])
        self.assertEqual(take_bytes(line, 65536), [count - 65536] + everything[65536:])
        self.assertEqual(take_bytes(line, 65536), [0])


if __name__ == "__main__":
    unittest.main()
