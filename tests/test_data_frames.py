"""Promise 2: frames of kind 0, data."""

import unittest

from tests.helpers import Outcome, frame, line_fails, request, room, sent, stream_fails, told

ASKED = request(1, last=False)
REQUEST_TOLD = [1, 1, 0, 3, 0]


class DataFrameTest(unittest.TestCase):
    def after(self, row, asked=ASKED):
        outcome = Outcome(asked + row)
        return outcome.sent, outcome.told[1:]

    def test_data(self):
        self.assertEqual(self.after(frame(0, 0, 1, [1, 2, 3])), ([room(0, 3), room(1, 3)], [[3, 1, 0, 3, 0]]))

    def test_the_last_data(self):
        self.assertEqual(self.after(frame(0, 1, 1, [1, 2, 3])), ([room(0, 3)], [[3, 1, 1, 3, 0]]))

    def test_other_flags_mean_nothing(self):
        self.assertEqual(self.after(frame(0, 246, 1, [1])), ([room(0, 1), room(1, 1)], [[3, 1, 0, 1, 0]]))

    def test_nothing_in_it(self):
        self.assertEqual(self.after(frame(0, 0, 1)), ([], [[3, 1, 0, 0, 0]]))
        self.assertEqual(self.after(frame(0, 1, 1)), ([], [[3, 1, 1, 0, 0]]))

    def test_as_much_as_can_be(self):
        outcome = Outcome(ASKED + frame(0, 0, 1, [9] * 16384))
        self.assertEqual(outcome.sent, [room(0, 16384), room(1, 16384)])
        self.assertEqual(outcome.told, [REQUEST_TOLD, [3, 1, 0, 16384, 0]])

    def test_stream_0(self):
        self.assertEqual(self.after(frame(0, 0, 0, [1])), ([line_fails(1, 1)], []))

    def test_padding_is_left_out_but_counts_for_the_room(self):
        for body, count in (([0], 0), ([0, 7], 1), ([1, 7], 0), ([1, 7, 0], 1), ([3, 1, 2, 0, 0, 0], 2),
                            ([5, 1, 2, 0, 0, 0], 0), ([255] + [1] * 256, 1), ([255] + [1] * 255, 0)):
            self.assertEqual(self.after(frame(0, 8, 1, body)),
                             ([room(0, len(body)), room(1, len(body))], [[3, 1, 0, count, 0]]), body)
            self.assertEqual(self.after(frame(0, 9, 1, body)),
                             ([room(0, len(body))], [[3, 1, 1, count, 0]]), body)

    def test_wrong_padding(self):
        for body in ([], [1], [2, 7], [4, 1, 2, 3], [255] + [1] * 254):
            self.assertEqual(self.after(frame(0, 8, 1, body)), ([line_fails(1, 1)], []), body)
            self.assertEqual(self.after(frame(0, 9, 1, body)), ([line_fails(1, 1)], []), body)

    def test_wrong_padding_of_a_stream_of_which_no_more_may_come(self):
        self.assertEqual(self.after(frame(0, 8, 1, [4]), request(1)), ([line_fails(1, 1)], []))

    def test_without_the_flag_there_is_no_padding(self):
        self.assertEqual(self.after(frame(0, 0, 1, [200, 1])), ([room(0, 2), room(1, 2)], [[3, 1, 0, 2, 0]]))

    def test_idle_streams(self):
        for stream in (2, 3, 4, 2147483647, 2147483646):
            for body in ([], [1]):
                self.assertEqual(self.after(frame(0, 0, stream, body)), ([line_fails(1, 1)], []), stream)
        self.assertEqual(sent(frame(0, 0, 1, [1])), [line_fails(1)])

    def test_even_streams_below_the_highest_are_idle_too(self):
        self.assertEqual(sent(request(9) + frame(0, 0, 4, [1])), [line_fails(1, 9)])

    def test_no_more_may_come_behind_a_request(self):
        self.assertEqual(self.after(frame(0, 0, 1, [1, 2]), request(1)), ([room(0, 2), stream_fails(1, 5)], []))
        self.assertEqual(self.after(frame(0, 1, 1), request(1)), ([stream_fails(1, 5)], []))

    def test_no_more_may_come_behind_the_last_data(self):
        row = frame(0, 1, 1, [1]) + frame(0, 0, 1, [2])
        self.assertEqual(self.after(row), ([room(0, 1), room(0, 1), stream_fails(1, 5)], [[3, 1, 1, 1, 0]]))

    def test_no_more_may_come_behind_trailers(self):
        row = frame(1, 5, 1) + frame(0, 0, 1, [2])
        self.assertEqual(self.after(row), ([room(0, 1), stream_fails(1, 5)], [[2, 1, 1, 0, 0]]))

    def test_more_may_come_behind_data(self):
        row = frame(0, 0, 1) + frame(0, 0, 1, [4]) + frame(0, 1, 1, [5, 6])
        self.assertEqual(told(ASKED + row),
                         [REQUEST_TOLD, [3, 1, 0, 0, 0], [3, 1, 0, 1, 0], [3, 1, 1, 2, 0]])

    def test_streams_that_are_gone(self):
        gone = ASKED + frame(3, 0, 1, [0] * 4)
        self.assertEqual(sent(gone + frame(0, 0, 1, [1])), [room(0, 1), stream_fails(1, 5)])
        self.assertEqual(sent(gone + frame(0, 0, 1)), [stream_fails(1, 5)])
        # Each time anew.
        self.assertEqual(sent(gone + frame(0, 0, 1) * 2), [stream_fails(1, 5)] * 2)

    def test_streams_that_were_passed_over(self):
        self.assertEqual(sent(request(9) + frame(0, 0, 3, [1])), [room(0, 1), stream_fails(3, 5)])

    def test_a_stream_that_fails_is_gone(self):
        row = request(1) + frame(0, 0, 1) + frame(3, 0, 1, [0] * 4)
        outcome = Outcome(row)
        self.assertEqual(outcome.sent, [stream_fails(1, 5)])
        self.assertEqual(outcome.told, [[1, 1, 1, 3, 0]])

    def test_other_streams_stay(self):
        row = request(1) + request(3, last=False) + frame(0, 0, 1) + frame(0, 0, 3, [1])
        self.assertEqual(sent(row), [stream_fails(1, 5), room(0, 1), room(3, 1)])


if __name__ == "__main__":
    unittest.main()
