"""Promise 6: data."""

import unittest

from tests.helpers import (
    BEGIN, EVENT, LARGEST, MOST, START, answer, away, data, feed, feeds, four, frame, header, request, reset, run,
    spelled, STATUS, take,
)

OUTSIDE = (0, -1, -2, -65536, -LARGEST - 1, 65537, 65538, LARGEST)


class DataTest(unittest.TestCase):
    ASKED = START + request(1, last=False)

    def told(self, row, *calls):
        """What calls answer once the second that is to be told is told now."""
        parts = run(BEGIN, *feeds(self.ASKED + row), EVENT, EVENT, *calls)
        return parts[len(parts) - len(calls):]

    def test_data(self):
        self.assertEqual(self.told(frame(0, 0, 1, [7, 0, 255]), data()), [[3, 7, 0, 255]])
        self.assertEqual(self.told(frame(0, 1, 1, [9]), data()), [[1, 9]])

    def test_again_and_again(self):
        self.assertEqual(self.told(frame(0, 0, 1, [7, 8]), data(), data(), data(2)), [[2, 7, 8]] * 3)

    def test_no_bytes(self):
        for row in (frame(0, 0, 1), frame(0, 1, 1), frame(0, 8, 1, [3, 1, 2, 3])):
            self.assertEqual(self.told(row, data(), data(1), data(MOST)), [[0]] * 3)

    def test_no_bytes_are_never_longer_than_most(self):
        for most in OUTSIDE:
            self.assertEqual(self.told(frame(0, 0, 1), data(most)), [[0]])

    def test_padding_is_left_out(self):
        self.assertEqual(self.told(frame(0, 8, 1, [2, 5, 6, 7, 9, 9]), data(), data(3), data(2)),
                         [[3, 5, 6, 7], [3, 5, 6, 7], [-2]])
        self.assertEqual(self.told(frame(0, 9, 1, [0, 5, 6]), data(2)), [[2, 5, 6]])

    def test_most_just_enough(self):
        self.assertEqual(self.told(frame(0, 0, 1, [7]), data(1)), [[1, 7]])
        self.assertEqual(self.told(frame(0, 0, 1, [7] * 5), data(5), data(6)), [[5] + [7] * 5] * 2)

    def test_most_too_small(self):
        self.assertEqual(self.told(frame(0, 0, 1, [7] * 5), data(4), data(1)), [[-2], [-2]])
        self.assertEqual(self.told(frame(0, 0, 1, [7] * 2), data(1)), [[-2]])

    def test_most_outside_its_range(self):
        for most in OUTSIDE:
            self.assertEqual(self.told(frame(0, 0, 1, [7]), data(most), data(1)), [[-2], [1, 7]], most)

    def test_as_many_as_can_be(self):
        body = [k % 251 for k in range(16384)]
        parts = self.told(frame(0, 0, 1, body), data(16384), data(16383), data(65536), data(65537))
        self.assertEqual(parts, [[16384] + body, [-2], [16384] + body, [-2]])

    def test_nothing_told(self):
        row = START + request(1, last=False) + frame(0, 0, 1, [7])
        self.assertEqual(run(BEGIN, data())[1], [-1])
        self.assertEqual(run(BEGIN, feed(row), data())[2], [-1])
        self.assertEqual(run(BEGIN, feed(row), EVENT, EVENT, EVENT, data())[5], [-1])

    def test_other_things_told(self):
        others = (request(3), frame(1, 5, 1, spelled(b"a", b"b")), frame(1, 5, 1), frame(3, 0, 1, four(7)),
                  frame(7, 0, 0, [0] * 8))
        for row in others:
            self.assertEqual(self.told(row, data()), [[-1]])

    def test_that_other_things_are_told_goes_before_most(self):
        for most in OUTSIDE:
            self.assertEqual(self.told(request(3), data(most)), [[-1]])
            self.assertEqual(run(BEGIN, data(most))[1], [-1])

    def test_of_the_data_told_now(self):
        row = self.ASKED + frame(0, 0, 1, [1]) + frame(0, 0, 1, [2, 3]) + frame(3, 0, 1, four(0))
        parts = run(BEGIN, feed(row), EVENT, data(), EVENT, data(), EVENT, data(), EVENT, data())
        self.assertEqual([parts[k] for k in (3, 5, 7, 9)], [[-1], [1, 1], [2, 2, 3], [-1]])

    def test_what_comes_does_not_change_it(self):
        parts = run(BEGIN, feed(self.ASKED + frame(0, 0, 1, [1])), EVENT, EVENT, feed(frame(0, 0, 1, [2])), data(),
                    EVENT, data())
        self.assertEqual([parts[5], parts[7]], [[1, 1], [1, 2]])

    def test_nothing_is_sent_or_told_by_it(self):
        row = self.ASKED + frame(0, 0, 1, [1]) + frame(0, 0, 1, [2])
        parts = run(BEGIN, feed(row), take(), EVENT, EVENT, data(), data(0), take(), EVENT, data())
        self.assertEqual(parts[5:], [[1, 1], [-2], [0], [3, 1, 0, 1, 0], [1, 2]])

    def test_the_stream_is_gone(self):
        for gone in (reset(1, 5), answer(1, (STATUS,), 1), feed(frame(3, 0, 1, four(1))), away(0)):
            self.assertEqual(self.told(frame(0, 0, 1, [4, 5]), gone, data())[1], [2, 4, 5])

    def test_headers_are_not_told_then(self):
        self.assertEqual(self.told(frame(0, 0, 1, [4, 5]), header(0), data()), [[-1], [2, 4, 5]])

    def test_begin_again(self):
        self.assertEqual(self.told(frame(0, 0, 1, [4, 5]), BEGIN, data()), [[0], [-1]])


if __name__ == "__main__":
    unittest.main()
