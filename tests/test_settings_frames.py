"""Promise 2: frames of kind 4, settings, and of kind 8, windows."""

import unittest

from tests.helpers import (
    ACKNOWLEDGED, LARGEST, Outcome, four, frame, line_fails, request, sent, setting, stream_fails, told,
)

ASKED = request(1, last=False)


def settings(*pairs):
    body = []
    for what, how_much in pairs:
        body = body + setting(what, how_much)
    return frame(4, 0, 0, body)


def grown(stream, growth):
    return frame(8, 0, stream, four(growth))


class SettingsFrameTest(unittest.TestCase):
    def test_they_are_acknowledged(self):
        self.assertEqual(sent(settings()), [ACKNOWLEDGED])
        self.assertEqual(sent(settings((1, 0), (3, 7), (6, 9))), [ACKNOWLEDGED])
        self.assertEqual(sent(frame(4, 254, 0)), [ACKNOWLEDGED])

    def test_another_stream(self):
        for flags in (0, 1):
            for body in ([], [0] * 5, setting(1, 1)):
                self.assertEqual(sent(frame(4, flags, 1, body)), [line_fails(1)])

    def test_an_acknowledgement(self):
        for flags in (1, 3, 255):
            self.assertEqual(sent(frame(4, flags, 0)), [])
            self.assertEqual(sent(frame(4, flags, 0, [0])), [line_fails(6)])
            self.assertEqual(sent(frame(4, flags, 0, setting(2, 0))), [line_fails(6)])

    def test_lengths(self):
        for length in (1, 2, 3, 4, 5, 7, 11, 13):
            # What stands in the whole ones isn't looked at then.
            body = (setting(2, 5) * 3)[:length]
            self.assertEqual(sent(frame(4, 0, 0, body)), [line_fails(6)], length)
        for count in (1, 2, 2730):
            self.assertEqual(sent(settings(*[(1, 1)] * count)), [ACKNOWLEDGED])

    def test_2(self):
        self.assertEqual(sent(settings((2, 0), (2, 1))), [ACKNOWLEDGED])
        for how_much in (2, 65536, 4294967295):
            self.assertEqual(sent(settings((2, how_much))), [line_fails(1)])

    def test_5(self):
        for how_much in (16384, 16385, 16777215):
            self.assertEqual(sent(settings((5, how_much))), [ACKNOWLEDGED])
        for how_much in (0, 16383, 16777216, 4294967295):
            self.assertEqual(sent(settings((5, how_much))), [line_fails(1)])

    def test_others_are_left_aside(self):
        for what in (0, 1, 3, 6, 7, 8, 255, 258, 260, 261, 65535):
            for how_much in (0, 2, 4294967295):
                self.assertEqual(sent(settings((what, how_much))), [ACKNOWLEDGED], what)

    def test_the_first_wrong_one_of_several(self):
        self.assertEqual(sent(settings((3, 1), (5, 1), (4, LARGEST + 1))), [line_fails(1)])
        self.assertEqual(sent(settings((3, 1), (4, LARGEST + 1), (5, 1))), [line_fails(3)])
        self.assertEqual(sent(settings((1, 1), (6, 0), (2, 2))), [line_fails(1)])

    def test_each_of_several_is_four_bytes_long(self):
        row = settings((2, 1), (5, 16777215), (4, LARGEST), (5, 16384), (65535, 4294967295))
        self.assertEqual(sent(row), [ACKNOWLEDGED])

    def test_several_frames(self):
        self.assertEqual(sent(settings((4, 1)) + settings((4, 2)) + settings((2, 3)) + settings()),
                         [ACKNOWLEDGED, ACKNOWLEDGED, line_fails(1)])

    def test_a_length_that_is_set_changes_nothing_of_what_may_come(self):
        row = settings((5, 20000)) + list((16385).to_bytes(3, "big")) + [100, 0, 0, 0, 0, 0]
        self.assertEqual(sent(row), [ACKNOWLEDGED, line_fails(6)])

    def test_a_table_that_is_set_changes_nothing_of_what_may_come(self):
        self.assertEqual(sent(settings((1, 8192)) + frame(1, 5, 1, [63, 226, 31])), [ACKNOWLEDGED, line_fails(9)])
        self.assertEqual(told(settings((1, 0)) + request(1, [64, 1, 97, 1, 98, 190])), [[1, 1, 1, 5, 0]])

    def test_nothing_is_told(self):
        self.assertEqual(told(settings((4, 1), (3, 100))), [])


class FirstWindowTest(unittest.TestCase):
    def test_4(self):
        for how_much in (0, 1, 65535, LARGEST):
            self.assertEqual(sent(settings((4, how_much))), [ACKNOWLEDGED])
        for how_much in (LARGEST + 1, 4294967295):
            self.assertEqual(sent(settings((4, how_much))), [line_fails(3)])

    def test_it_is_65535_before(self):
        self.assertEqual(sent(ASKED + grown(1, LARGEST - 65535)), [])
        self.assertEqual(sent(ASKED + grown(1, LARGEST - 65534)), [stream_fails(1, 3)])

    def test_it_is_that_of_streams_from_then_on(self):
        for first in (0, 1, 70000, LARGEST - 1):
            row = settings((4, first)) + ASKED
            self.assertEqual(sent(row + grown(1, LARGEST - first))[1:], [], first)
            if first > 0:
                self.assertEqual(sent(row + grown(1, LARGEST - first + 1))[1:], [stream_fails(1, 3)], first)
        self.assertEqual(sent(settings((4, LARGEST)) + ASKED + grown(1, 1))[1:], [stream_fails(1, 3)])

    def test_those_of_streams_change_by_as_much(self):
        row = ASKED + grown(1, 100)
        self.assertEqual(sent(row + settings((4, LARGEST - 100))), [ACKNOWLEDGED])
        self.assertEqual(sent(row + settings((4, LARGEST - 99))), [line_fails(3, 1)])
        self.assertEqual(sent(row + settings((4, 0)) + grown(1, LARGEST - 100)), [ACKNOWLEDGED])
        self.assertEqual(sent(row + settings((4, 0)) + grown(1, LARGEST - 99)), [ACKNOWLEDGED, stream_fails(1, 3)])

    def test_one_change_after_another(self):
        row = ASKED + settings((4, 10), (4, 30), (4, 20))
        self.assertEqual(sent(row + grown(1, LARGEST - 20))[1:], [])
        self.assertEqual(sent(row + grown(1, LARGEST - 19))[1:], [stream_fails(1, 3)])

    def test_a_change_that_is_too_much_for_a_while(self):
        row = ASKED + grown(1, 1) + settings((4, LARGEST), (4, 0))
        self.assertEqual(sent(row), [line_fails(3, 1)])

    def test_down_and_up_again(self):
        row = settings((4, 0)) + ASKED + settings((4, LARGEST)) + grown(1, 1)
        self.assertEqual(sent(row), [ACKNOWLEDGED, ACKNOWLEDGED, stream_fails(1, 3)])
        row = settings((4, 5)) + ASKED + settings((4, 0)) + settings((4, LARGEST))
        self.assertEqual(sent(row), [ACKNOWLEDGED] * 3)

    def test_every_stream_is_changed(self):
        for number in (1, 3, 5):
            row = request(1) + request(3) + request(5) + grown(number, 1)
            self.assertEqual(sent(row + settings((4, LARGEST))), [line_fails(3, 5)], number)
            self.assertEqual(sent(row + settings((4, LARGEST - 1))), [ACKNOWLEDGED], number)

    def test_streams_that_are_gone_are_not(self):
        row = ASKED + grown(1, 1) + frame(3, 0, 1, four(0)) + settings((4, LARGEST))
        self.assertEqual(sent(row), [ACKNOWLEDGED])

    def test_the_lines_window_is_not(self):
        self.assertEqual(sent(settings((4, LARGEST)) + grown(0, LARGEST - 65535)), [ACKNOWLEDGED])
        self.assertEqual(sent(settings((4, 0)) + grown(0, LARGEST - 65534)), [ACKNOWLEDGED, line_fails(3)])


class WindowFrameTest(unittest.TestCase):
    def test_other_than_four_bytes(self):
        for length in (0, 3, 5, 8):
            for stream in (0, 1, 2, 3):
                self.assertEqual(sent(ASKED + frame(8, 0, stream, [1] * length)), [line_fails(6, 1)])

    def test_the_lines(self):
        self.assertEqual(sent(grown(0, 1) + grown(0, LARGEST - 65536)), [])
        self.assertEqual(sent(grown(0, LARGEST - 65535) + grown(0, 1)), [line_fails(3)])
        self.assertEqual(sent(grown(0, LARGEST)), [line_fails(3)])
        self.assertEqual(sent(grown(0, 0)), [line_fails(1)])

    def test_the_uppermost_bit_is_left_aside(self):
        self.assertEqual(sent(frame(8, 0, 0, [128, 0, 0, 0])), [line_fails(1)])
        self.assertEqual(sent(frame(8, 0, 0, [128, 0, 0, 1])), [])
        self.assertEqual(sent(ASKED + frame(8, 0, 1, [128, 0, 0, 0])), [stream_fails(1, 1)])
        self.assertEqual(sent(ASKED + frame(8, 0, 1, [128, 0, 0, 1])), [])

    def test_a_streams(self):
        self.assertEqual(sent(ASKED + grown(1, 1) + grown(1, LARGEST - 65536)), [])
        self.assertEqual(sent(ASKED + grown(1, LARGEST - 65535) + grown(1, 1)), [stream_fails(1, 3)])
        self.assertEqual(sent(ASKED + grown(1, LARGEST)), [stream_fails(1, 3)])
        self.assertEqual(sent(ASKED + grown(1, 0)), [stream_fails(1, 1)])

    def test_a_stream_of_which_no_more_may_come_has_one_too(self):
        self.assertEqual(sent(request(1) + grown(1, 1)), [])
        self.assertEqual(sent(request(1) + grown(1, 0)), [stream_fails(1, 1)])

    def test_the_stream_is_gone_then(self):
        row = ASKED + grown(1, 0) + frame(0, 0, 1)
        self.assertEqual(sent(row), [stream_fails(1, 1), stream_fails(1, 5)])

    def test_windows_are_each_their_own(self):
        row = ASKED + request(3) + grown(1, LARGEST - 65535) + grown(3, LARGEST - 65535)
        self.assertEqual(sent(row + grown(0, LARGEST - 65535)), [])

    def test_idle_streams(self):
        for stream in (2, 3, 4, LARGEST):
            for growth in (0, 1):
                self.assertEqual(sent(ASKED + grown(stream, growth)), [line_fails(1, 1)])

    def test_even_streams_below_the_highest(self):
        self.assertEqual(sent(request(5) + grown(4, 1)), [line_fails(1, 5)])

    def test_streams_that_are_gone(self):
        for growth in (0, 1, LARGEST):
            self.assertEqual(sent(ASKED + frame(3, 0, 1, four(0)) + grown(1, growth)), [])
            self.assertEqual(sent(request(5) + grown(3, growth)), [])

    def test_flags_mean_nothing_and_nothing_is_told(self):
        outcome = Outcome(frame(8, 255, 0, four(1)) + grown(0, 5))
        self.assertEqual((outcome.sent, outcome.told), ([], []))


if __name__ == "__main__":
    unittest.main()
