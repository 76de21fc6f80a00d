"""Promise 2: frames of kind 1, blocks in one frame and in several, streams that begin and end."""

import unittest

from manyonline.coming import feed_bytes
from manyonline.line import begin_line
from manyonline.telling import next_event, take_bytes
from tests.helpers import (
    FIRST_BYTES, GET, START, Outcome,
    four, frame, indexed, kept, line_fails, number, request, resized, room, sent, spelled, split_frames,
    stream_fails, told,
)


class HeadersFrameTest(unittest.TestCase):
    def test_a_request(self):
        outcome = Outcome(frame(1, 5, 1, GET))
        self.assertEqual((outcome.sent, outcome.told), ([], [[1, 1, 1, 3, 0]]))

    def test_a_request_of_which_more_may_come(self):
        outcome = Outcome(frame(1, 4, 1, GET))
        self.assertEqual((outcome.sent, outcome.told), ([], [[1, 1, 0, 3, 0]]))

    def test_other_flags_mean_nothing(self):
        self.assertEqual(told(frame(1, 4 + 2 + 16 + 64 + 128, 1, GET)), [[1, 1, 0, 3, 0]])

    def test_stream_0_and_even_ones(self):
        for stream in (0, 2, 4, 2147483646):
            for row in (frame(1, 5, stream, GET), frame(1, 37, stream, [0]), frame(1, 0, stream)):
                self.assertEqual(sent(request(1) + row), [line_fails(1, 1)], stream)
        self.assertEqual(sent(request(5) + frame(1, 5, 4, GET)), [line_fails(1, 5)])

    def test_padding(self):
        for count in (0, 1, 2, 255):
            body = [count] + GET + [131] * count
            self.assertEqual(told(frame(1, 13, 1, body)), [[1, 1, 1, 3, 0]], count)

    def test_nothing_but_padding(self):
        self.assertEqual(sent(frame(1, 13, 1, [0])), [stream_fails(1, 1)])
        self.assertEqual(sent(frame(1, 13, 1, [2, 0, 0])), [stream_fails(1, 1)])

    def test_wrong_padding(self):
        for body in ([], [1], [4] + GET, [255] + GET):
            for flags in (13, 8, 45):
                self.assertEqual(sent(frame(1, flags, 1, body)), [line_fails(1)], body)

    def test_no_room_is_given_back(self):
        self.assertEqual(sent(frame(1, 13, 1, [9] + GET + [0] * 9)), [])


class DependingTest(unittest.TestCase):
    def test_on_another(self):
        for other in (0, 2, 3, 2147483647):
            outcome = Outcome(frame(1, 37, 1, four(other) + [255] + GET))
            self.assertEqual((outcome.sent, outcome.told), ([], [[1, 1, 1, 3, 0]]))
        self.assertEqual(told(frame(1, 37, 1, [128, 0, 0, 9, 1] + GET)), [[1, 1, 1, 3, 0]])

    def test_fewer_than_five_bytes(self):
        for length in range(5):
            for flags in (32, 37):
                self.assertEqual(sent(frame(1, flags, 1, [0] * length)), [line_fails(6)])

    def test_five_bytes_alone(self):
        self.assertEqual(sent(frame(1, 37, 1, [0] * 5)), [stream_fails(1, 1)])

    def test_with_padding(self):
        self.assertEqual(told(frame(1, 45, 1, [2] + four(3) + [7] + GET + [0, 0])), [[1, 1, 1, 3, 0]])
        # The padding is left out first.
        self.assertEqual(sent(frame(1, 45, 1, [1] + [0] * 5)), [line_fails(6)])
        self.assertEqual(sent(frame(1, 45, 1, [0] + [0] * 4)), [line_fails(6)])
        self.assertEqual(sent(frame(1, 45, 1, [6] + [0] * 5)), [line_fails(1)])

    def test_on_itself(self):
        for upper in (0, 128):
            body = [upper, 0, 0, 5, 16] + GET
            outcome = Outcome(frame(1, 37, 5, body))
            self.assertEqual((outcome.sent, outcome.told), ([stream_fails(5, 1)], []))
        # It's the highest all the same.
        row = frame(1, 37, 5, four(5) + [0] + GET)
        self.assertEqual(sent(row + frame(0, 0, 5)), [stream_fails(5, 1), stream_fails(5, 5)])
        self.assertEqual(sent(row + frame(5, 0, 0)), [stream_fails(5, 1), line_fails(1, 5)])

    def test_on_itself_in_a_block_of_several_frames(self):
        row = frame(1, 33, 5, four(5) + [0]) + frame(9, 4, 5, GET)
        self.assertEqual(sent(row), [stream_fails(5, 1)])

    def test_on_itself_with_trailers(self):
        row = request(1, last=False) + frame(1, 37, 1, four(1) + [0])
        outcome = Outcome(row)
        self.assertEqual((outcome.sent, outcome.told), ([stream_fails(1, 1)], [[1, 1, 0, 3, 0]]))

    def test_on_another_with_trailers(self):
        row = request(1, last=False) + frame(1, 37, 1, four(3) + [0])
        outcome = Outcome(row)
        self.assertEqual((outcome.sent, outcome.told), ([], [[1, 1, 0, 3, 0], [2, 1, 1, 0, 0]]))

    def test_a_wrong_block_goes_before(self):
        self.assertEqual(sent(frame(1, 37, 5, four(5) + [0, 128])), [line_fails(9)])


class SeveralFramesTest(unittest.TestCase):
    def test_a_block_in_several(self):
        row = frame(1, 1, 1, GET[:1]) + frame(9, 0, 1) + frame(9, 0, 1, GET[1:2]) + frame(9, 4, 1, GET[2:])
        outcome = Outcome(row)
        self.assertEqual((outcome.sent, outcome.told), ([], [[1, 1, 1, 3, 0]]))

    def test_cut_anywhere(self):
        block = GET + spelled(b"name", b"value") + kept(b"x", b"y" * 200) + indexed(62)
        for cut in range(len(block) + 1):
            row = frame(1, 0, 1, block[:cut]) + frame(9, 4, 1, block[cut:])
            self.assertEqual(told(row), [[1, 1, 0, 6, 0]], cut)

    def test_nothing_follows_before_it_is_whole(self):
        outcome = Outcome(frame(1, 1, 1, GET) + frame(9, 0, 1))
        self.assertEqual((outcome.sent, outcome.told), ([], []))

    def test_the_last_is_told_by_the_first_frame(self):
        self.assertEqual(told(frame(1, 0, 1, GET) + frame(9, 5, 1)), [[1, 1, 0, 3, 0]])
        self.assertEqual(told(frame(1, 1, 1, GET) + frame(9, 4, 1)), [[1, 1, 1, 3, 0]])

    def test_flags_of_more_but_4_mean_nothing(self):
        self.assertEqual(told(frame(1, 1, 1, GET) + frame(9, 255 - 4, 1, indexed(19)) + frame(9, 255, 1)),
                         [[1, 1, 1, 4, 0]])

    def test_another_kind(self):
        for kind in (0, 1, 2, 3, 4, 5, 6, 7, 8, 10, 255):
            for stream in (0, 1):
                self.assertEqual(sent(frame(1, 1, 1, GET) + frame(kind, 0, stream)), [line_fails(1)], kind)

    def test_another_stream(self):
        for stream in (0, 2, 3):
            for flags in (0, 4):
                self.assertEqual(sent(frame(1, 1, 1, GET) + frame(9, flags, stream)), [line_fails(1)])

    def test_once_it_is_whole_others_may_come(self):
        row = frame(1, 1, 1, GET) + frame(9, 4, 1) + frame(6, 0, 0, [0] * 8) + request(3)
        outcome = Outcome(row)
        self.assertEqual(outcome.sent, [(6, 1, 0, [0] * 8)])
        self.assertEqual(outcome.told, [[1, 1, 1, 3, 0], [1, 3, 1, 3, 0]])

    def test_the_second_of_two_begins_anew(self):
        row = frame(1, 5, 1, GET) + frame(1, 1, 3, GET) + frame(9, 4, 3)
        self.assertEqual(told(row), [[1, 1, 1, 3, 0], [1, 3, 1, 3, 0]])


class LongBlockTest(unittest.TestCase):
    """Blocks that no list of 30000 numbers holds."""

    def feed_all(self, row):
        line = begin_line()
        for place in range(0, len(row), 16384):
            piece = row[place:place + 16384]
            self.assertEqual(feed_bytes(line, piece), len(piece))
        return line

    def frames_of(self, length):
        """A block of that length: what the table holds is said again and again, then comes a request."""
        block = [32] * (length - len(GET)) + GET
        row = START + frame(1, 1, 1, block[:16384])
        for place in range(16384, length, 16384):
            row = row + frame(9, 0, 1, block[place:place + 16384])
        return row

    def sent_by(self, line):
        return split_frames(take_bytes(line, 65536)[1:])[2:]

    def test_65536_bytes(self):
        line = self.feed_all(self.frames_of(65536) + frame(9, 4, 1))
        self.assertEqual(self.sent_by(line), [])
        self.assertEqual(next_event(line), [1, 1, 1, 3, 0])

    def test_one_more(self):
        line = self.feed_all(self.frames_of(65536) + frame(9, 0, 1, [130]))
        self.assertEqual(self.sent_by(line), [line_fails(11)])
        self.assertEqual(next_event(line), [0, 0, 0, 0, 0])

    def test_one_more_and_whole(self):
        # Unpacked it would be wrong, but it's too long first.
        line = self.feed_all(self.frames_of(65536) + frame(9, 4, 1, [128]))
        self.assertEqual(self.sent_by(line), [line_fails(11)])

    def test_padding_does_not_count(self):
        block = [32] * 16000
        row = START + frame(1, 41, 1, [255] + four(0) + [0] + block + [0] * 255)
        for length in (16384, 16384, 16384, 65536 - 16000 - 3 * 16384 - 3):
            row = row + frame(9, 0, 1, [32] * length)
        line = self.feed_all(row + frame(9, 4, 1, GET))
        self.assertEqual(self.sent_by(line), [])
        self.assertEqual(next_event(line), [1, 1, 1, 3, 0])

    def test_many_frames_with_nothing_in_them(self):
        line = self.feed_all(START + frame(1, 1, 1, GET) + frame(9, 0, 1) * 10000 + frame(9, 4, 1))
        self.assertEqual(next_event(line), [1, 1, 1, 3, 0])


class WeightTest(unittest.TestCase):
    # The weights of GET's headers: :method GET, :scheme http, :path /
    GET_WEIGHT = 42 + 43 + 38

    def block_of(self, weight):
        """A request's headers that weigh so much."""
        block = list(GET) + kept(b"a", b"b" * 4031)
        rest = weight - self.GET_WEIGHT - 4064
        while rest >= 4064 + 64:
            block = block + indexed(62)
            rest -= 4064
        return block + spelled(b"c", b"d" * (rest - 33))

    def test_65536(self):
        outcome = Outcome(frame(1, 5, 1, self.block_of(65536)))
        self.assertEqual(outcome.sent, [])
        self.assertEqual(len(outcome.told), 1)
        self.assertEqual(outcome.told[0][:3], [1, 1, 1])

    def test_65537(self):
        outcome = Outcome(frame(1, 5, 1, self.block_of(65537)))
        self.assertEqual((outcome.sent, outcome.told), ([line_fails(11)], []))

    def test_a_wrong_block_goes_before(self):
        self.assertEqual(sent(frame(1, 5, 1, self.block_of(65537) + [128])), [line_fails(9)])

    def test_it_goes_before_what_is_wrong_with_the_stream(self):
        row = request(1) + frame(1, 5, 1, self.block_of(65537))
        self.assertEqual(sent(row), [line_fails(11, 1)])
        row = frame(1, 37, 1, four(1) + [0] + self.block_of(65537))
        self.assertEqual(sent(row), [line_fails(11)])
        self.assertEqual(sent(frame(1, 5, 1, indexed(20) * 2000)), [line_fails(11)])

    def test_of_trailers_too(self):
        block = self.block_of(65536 + self.GET_WEIGHT)[3:]
        outcome = Outcome(request(1, last=False) + frame(1, 5, 1, block))
        self.assertEqual(outcome.told[1][:3], [2, 1, 1])
        block = self.block_of(65537 + self.GET_WEIGHT)[3:]
        self.assertEqual(sent(request(1, last=False) + frame(1, 5, 1, block)), [line_fails(11, 1)])


class StreamsTest(unittest.TestCase):
    def test_they_need_not_come_one_by_one(self):
        self.assertEqual(told(request(7) + request(9) + request(101)),
                         [[1, 7, 1, 3, 0], [1, 9, 1, 3, 0], [1, 101, 1, 3, 0]])

    def test_one_that_is_not_above_the_highest(self):
        outcome = Outcome(request(7) + request(5) + request(9))
        self.assertEqual(outcome.sent, [stream_fails(5, 5)])
        self.assertEqual(outcome.told, [[1, 7, 1, 3, 0], [1, 9, 1, 3, 0]])

    def test_one_that_is_gone(self):
        outcome = Outcome(request(7) + frame(3, 0, 7, four(0)) + request(7))
        self.assertEqual(outcome.sent, [stream_fails(7, 5)])
        self.assertEqual(outcome.told, [[1, 7, 1, 3, 0], [4, 7, 1, 0, 0]])

    def test_one_that_is_gone_and_what_is_wrong_beside(self):
        gone = request(7) + frame(3, 0, 7, four(0))
        self.assertEqual(sent(gone + frame(1, 36, 7, four(7) + [0])), [stream_fails(7, 5)])
        self.assertEqual(sent(gone + frame(1, 5, 7, spelled(b"A", b""))), [stream_fails(7, 5)])

    def test_one_that_fails_is_the_highest_all_the_same(self):
        row = frame(1, 5, 9, [130]) + request(7)
        self.assertEqual(sent(row), [stream_fails(9, 1), stream_fails(7, 5)])

    def test_the_table_is_kept_up_whatever_becomes_of_the_stream(self):
        for lost in (frame(1, 5, 3, kept(b"a", b"b")),
                     request(3) + request(1, kept(b"a", b"b")),
                     request(3) + frame(1, 5, 3, kept(b"a", b"b"))):
            outcome = Outcome(lost + request(5, indexed(62)))
            self.assertEqual(outcome.told[-1], [1, 5, 1, 4, 0])

    def many(self, count, last=True):
        row = []
        for k in range(count):
            row = row + request(2 * k + 1, last=last)
        return row

    def test_32_streams(self):
        for last in (True, False):
            outcome = Outcome(self.many(32, last))
            self.assertEqual(outcome.sent, [])
            self.assertEqual(len(outcome.told), 32)

    def test_one_more(self):
        for last in (True, False):
            outcome = Outcome(self.many(33, last))
            self.assertEqual(outcome.sent, [stream_fails(65, 7)])
            self.assertEqual(len(outcome.told), 32)

    def test_one_more_is_the_highest_and_gone(self):
        row = self.many(33) + frame(0, 0, 65) + frame(5, 0, 0)
        self.assertEqual(sent(row), [stream_fails(65, 7), stream_fails(65, 5), line_fails(1, 65)])

    def test_one_more_that_is_wrong(self):
        row = self.many(32) + frame(1, 5, 65, [130])
        self.assertEqual(sent(row), [stream_fails(65, 1)])
        row = self.many(32) + frame(1, 37, 65, four(65) + [0] + GET)
        self.assertEqual(sent(row), [stream_fails(65, 1)])

    def test_once_one_is_gone_there_is_room(self):
        for going in (frame(3, 0, 31, four(0)), frame(2, 0, 31), frame(8, 0, 31, four(0)), frame(0, 0, 31)):
            outcome = Outcome(self.many(32) + going + request(65) + request(67))
            self.assertEqual(outcome.sent[-1], stream_fails(67, 7))
            self.assertEqual(outcome.told[-1], [1, 65, 1, 3, 0])

    def test_with_32_trailers_may_come(self):
        outcome = Outcome(self.many(32, False) + frame(1, 5, 31))
        self.assertEqual((outcome.sent, outcome.told[-1]), ([], [2, 31, 1, 0, 0]))


class TrailersTest(unittest.TestCase):
    ASKED = request(1, last=False)

    def test_they_are_told(self):
        outcome = Outcome(self.ASKED + frame(1, 5, 1, spelled(b"a", b"b")))
        self.assertEqual((outcome.sent, outcome.told[1:]), ([], [[2, 1, 1, 1, 0]]))

    def test_behind_data(self):
        row = self.ASKED + frame(0, 0, 1, [1]) + frame(1, 5, 1, spelled(b"a", b"b") + spelled(b"c", b""))
        outcome = Outcome(row)
        self.assertEqual(outcome.sent, [room(0, 1), room(1, 1)])
        self.assertEqual(outcome.told[1:], [[3, 1, 0, 1, 0], [2, 1, 1, 2, 0]])

    def test_none_of_them(self):
        self.assertEqual(told(self.ASKED + frame(1, 5, 1))[1:], [[2, 1, 1, 0, 0]])
        self.assertEqual(told(self.ASKED + frame(1, 5, 1, resized(100)))[1:], [[2, 1, 1, 0, 0]])

    def test_not_the_last(self):
        outcome = Outcome(self.ASKED + frame(1, 4, 1, spelled(b"a", b"b")))
        self.assertEqual((outcome.sent, outcome.told[1:]), ([stream_fails(1, 1)], []))

    def test_no_trailers(self):
        for block in (GET, spelled(b"A", b""), spelled(b"a", b"b") + indexed(8), spelled(b"te", b"gzip")):
            outcome = Outcome(self.ASKED + frame(1, 5, 1, block))
            self.assertEqual((outcome.sent, outcome.told[1:]), ([stream_fails(1, 1)], []))

    def test_no_more_may_come(self):
        for asked in (request(1), self.ASKED + frame(0, 1, 1), self.ASKED + frame(1, 5, 1)):
            before = Outcome(asked)
            for more in (frame(1, 5, 1), frame(1, 4, 1, spelled(b"A", b"")), frame(1, 37, 1, four(1) + [0])):
                outcome = Outcome(asked + more)
                self.assertEqual(outcome.sent, [stream_fails(1, 5)])
                self.assertEqual(outcome.told, before.told)

    def test_a_stream_that_fails_is_gone(self):
        for wrong, code in ((frame(1, 4, 1), 1), (frame(1, 5, 1, GET), 1), (frame(1, 5, 1) * 2, 5)):
            row = self.ASKED + wrong + frame(3, 0, 1, four(9))
            outcome = Outcome(row)
            self.assertEqual(outcome.sent, [stream_fails(1, code)])
            self.assertNotIn([4, 1, 1, 0, 9], outcome.told)

    def test_of_another_stream(self):
        row = self.ASKED + request(3, last=False) + frame(1, 5, 1) + frame(0, 1, 3)
        self.assertEqual(told(row)[2:], [[2, 1, 1, 0, 0], [3, 3, 1, 0, 0]])


class SettingsBeforeHeadersTest(unittest.TestCase):
    def test_a_block_cannot_begin_a_line(self):
        outcome = Outcome(request(1) + frame(4, 0, 0), FIRST_BYTES)
        self.assertEqual((outcome.frames[1:], outcome.told), ([line_fails(1)], []))

    def test_a_number_of_several_bytes_across_frames(self):
        long_name = [0] + number(300, 127)
        row = frame(1, 1, 1, GET + long_name[:2]) + frame(9, 0, 1, long_name[2:] + [97] * 100)
        row = row + frame(9, 4, 1, [97] * 200 + [0])
        self.assertEqual(told(row), [[1, 1, 1, 4, 0]])


if __name__ == "__main__":
    unittest.main()
