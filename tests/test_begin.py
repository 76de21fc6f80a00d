"""Promise 1: begin."""

import unittest

from tests.helpers import (
    BEGIN, EVENT, FIRST_BYTES, GET, LARGEST, OWN_SETTINGS, START, STATUS, answer, data, feed, four, frame, header,
    indexed, kept, line_fails, request, reset, run, send, setting, spelled, split_frames, take,
)


class BeginTest(unittest.TestCase):
    def test_settings_are_sent(self):
        parts = run(BEGIN, take())
        self.assertEqual(parts, [[0], [15, 0, 0, 6, 4, 0, 0, 0, 0, 0, 0, 3, 0, 0, 0, 32]])

    def test_begin_with_nothing_else(self):
        self.assertEqual(run(BEGIN), [[0]])

    def test_what_was_to_be_sent_is_so_no_longer(self):
        parts = run(BEGIN, feed(START + frame(6, 0, 0, [7] * 8)), BEGIN, take(), take())
        self.assertEqual(parts[3:], [[15] + OWN_SETTINGS, [0]])

    def test_nothing_has_come(self):
        for cut in (1, 23, 24, 30, 33, 40):
            row = (START + request(1))[:cut]
            parts = run(BEGIN, feed(row), BEGIN, feed(START + request(1)), take(), EVENT)
            self.assertEqual(parts[3], [len(START + request(1))], cut)
            self.assertEqual(split_frames(parts[4][1:]), [(4, 0, 0, [0, 3, 0, 0, 0, 32]), (4, 1, 0, [])], cut)
            self.assertEqual(parts[5], [1, 1, 1, 3, 0], cut)

    def test_the_first_frame_is_first_again(self):
        parts = run(BEGIN, feed(START), BEGIN, feed(FIRST_BYTES + frame(6, 0, 0, [0] * 8)), take())
        self.assertEqual(split_frames(parts[4][1:])[1:], [line_fails(1)])

    def test_nothing_is_told(self):
        row = START + request(1) + request(3)
        parts = run(BEGIN, feed(row), EVENT, BEGIN, header(0), EVENT, header(0))
        self.assertEqual(parts[2], [1, 1, 1, 3, 0])
        self.assertEqual(parts[4:], [[-1], [0, 0, 0, 0, 0], [-1]])

    def test_a_failed_line_begins_anew(self):
        parts = run(BEGIN, feed([1, 2, 3]), BEGIN, feed(START + request(1)), EVENT)
        self.assertEqual(parts[4], [1, 1, 1, 3, 0])

    def test_a_block_that_went_on_goes_on_no_longer(self):
        parts = run(BEGIN, feed(START + frame(1, 0, 1, GET)), BEGIN, feed(START + request(3)), EVENT)
        self.assertEqual(parts[4], [1, 3, 1, 3, 0])

    def test_streams_and_the_highest_are_new(self):
        row = list(START)
        for k in range(1, 65, 2):
            row = row + request(k)
        parts = run(BEGIN, feed(row), BEGIN, feed(START + request(1) + frame(0, 0, 3)), EVENT, take())
        self.assertEqual(parts[4], [1, 1, 1, 3, 0])
        self.assertEqual(split_frames(parts[5][1:])[2:], [line_fails(1, 1)])

    def test_the_tables_are_new(self):
        parts = run(BEGIN, feed(START + request(1, kept(b"a", b"b"))), BEGIN,
                    feed(START + request(1, indexed(62))), take())
        self.assertEqual(split_frames(parts[4][1:])[2:], [line_fails(9)])

    def test_what_the_table_holds_is_new(self):
        small = frame(1, 5, 1, [32] + GET)
        parts = run(BEGIN, feed(START + small), BEGIN,
                    feed(START + request(1, kept(b"a", b"b") + indexed(62))), EVENT)
        self.assertEqual(parts[4], [1, 1, 1, 5, 0])

    def test_the_lines_window_is_new(self):
        grown = START + frame(8, 0, 0, four(LARGEST - 65535))
        parts = run(BEGIN, feed(grown), take(), BEGIN, feed(grown), take(), feed(frame(8, 0, 0, four(1))), take())
        self.assertEqual(split_frames(parts[5][1:])[2:], [])
        self.assertEqual(split_frames(parts[7][1:]), [line_fails(3)])

    def test_the_first_window_is_new(self):
        large = FIRST_BYTES + frame(4, 0, 0, setting(4, LARGEST))
        grown = START + request(1) + frame(8, 0, 1, four(LARGEST - 65535))
        parts = run(BEGIN, feed(large), BEGIN, feed(grown), take())
        self.assertEqual(split_frames(parts[4][1:])[2:], [])

    def test_no_answer_has_begun(self):
        asked = feed(START + request(1))
        parts = run(BEGIN, asked, answer(1, (STATUS,)), BEGIN, asked, send(1, [5]), answer(1, (STATUS,)), send(1, [5]))
        self.assertEqual(parts[5:], [[-1], [0], [1]])

    def test_a_stream_that_was_gone_can_be_asked_anew(self):
        asked = feed(START + request(1))
        for gone in (reset(1, 3), answer(1, (STATUS,), 1)):
            parts = run(BEGIN, asked, gone, BEGIN, answer(1, (STATUS,)), asked, answer(1, (STATUS,)))
            self.assertEqual(parts[4:], [[-1], [len(asked) - 2], [0]])

    def test_windows_that_were_used_up_are_new(self):
        asked = feed(START + request(1))
        parts = run(BEGIN, asked, answer(1, (STATUS,)), send(1, [5] * 65535), BEGIN, asked, answer(1, (STATUS,)),
                    send(1, [5] * 65535))
        self.assertEqual(parts[3:], [[65535], [0], [len(asked) - 2], [0], [65535]])

    def test_no_data_are_told(self):
        parts = run(BEGIN, feed(START + request(1, last=False) + frame(0, 0, 1, [5])), EVENT, EVENT, data(), BEGIN,
                    data(), EVENT)
        self.assertEqual(parts[4:], [[1, 5], [0], [-1], [0] * 5])

    def test_what_waited_waits_no_longer(self):
        heavy = kept(b"a", b"b" * 3000) + indexed(62) * 20
        row = START + request(1, heavy) + request(3, spelled(b"a", b"b" * 3000)) + frame(6, 0, 0, [1] * 8)
        parts = run(BEGIN, feed(row), BEGIN, feed(START + request(1)), EVENT)
        self.assertLess(parts[1][0], len(row))
        self.assertEqual(parts[3], [len(START + request(1))])
        self.assertEqual(parts[4], [1, 1, 1, 3, 0])


if __name__ == "__main__":
    unittest.main()
