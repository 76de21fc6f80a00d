"""Promise 7: what answer refuses, in which order, and that nothing changes then."""

import unittest

from manyonline.answering import answer_stream
from manyonline.coming import feed_bytes
from manyonline.headers import are_answer_headers
from manyonline.line import begin_line
from manyonline.telling import take_bytes
from tests.helpers import (
    BEGIN, EVENT, LARGEST, PING, START, STATUS, after, after_full, answer, away, data, feed, four, frame, handed,
    request, reset, run, send, split_frames, stream_fails, take,
)

NEVER_STREAMS = (0, 2, 4, 3, 5, 7, LARGEST, -1, -2, -LARGEST - 1, LARGEST - 1)


class RefusedTest(unittest.TestCase):
    def check_refused(self, headers, refusal=-1, row=None, stream=1, last=0):
        """It's refused and nothing changes: what comes behind is as if it hadn't been asked."""
        row = request(1, last=False) + frame(0, 0, 1, [1, 2]) if row is None else row
        later = [answer(1, (STATUS, (b"a", b"b"))), send(1, [9]), EVENT, EVENT, data(), reset(1, 3)]
        answered, frames = after(row, answer(stream, headers, last), *later)
        unasked, as_if_unasked = after(row, *later)
        self.assertEqual(answered, [[refusal]] + unasked)
        self.assertEqual(frames, as_if_unasked)


class WrongHeadersTest(RefusedTest):
    def test_no_bytes(self):
        self.check_refused([])
        self.check_refused([], last=1)
        self.assertFalse(are_answer_headers([]))

    def test_cut_short_at_each_place(self):
        row = handed(STATUS, (b"ab", b"cde"))
        self.assertEqual(len(row), 14 + 9)
        for length in range(len(row)):
            if length != 14:
                self.check_refused(row[:length])
        for length in (14, 23):
            self.assertEqual(after(request(1), answer(1, row[:length]))[0], [[0]])

    def test_too_long(self):
        for more in ([0], [0, 0], [0, 0, 0], [0, 1, 0, 0], [0, 0, 0, 1], [0, 1, 0, 1, 97], [97], [0, 1, 97]):
            self.check_refused(handed(STATUS) + more)

    def test_lengths_beyond_the_end(self):
        for lengths in ([255, 255, 0, 0], [0, 0, 255, 255], [1, 1, 0, 1], [0, 1, 1, 1], [255] * 4, [0, 2, 0, 1],
                        [0, 1, 0, 2]):
            self.check_refused(handed(STATUS) + lengths + [97, 98])
        self.assertEqual(after(request(1), answer(1, handed(STATUS) + [0, 1, 0, 1, 97, 98]))[0], [[0]])

    def test_both_bytes_of_a_length(self):
        row = handed(STATUS) + [1, 1, 0, 0] + [97] * 257
        self.assertEqual(after(request(1), answer(1, row))[0], [[0]])
        row = handed(STATUS) + [0, 1, 2, 3] + [97] * (1 + 515)
        self.assertEqual(after(request(1), answer(1, row))[0], [[0]])

    def test_too_many_bytes(self):
        pairs = (STATUS, (b"x", b"y" * (16385 - 14 - 5)))
        self.assertEqual(len(handed(*pairs)), 16385)
        self.check_refused(pairs)
        self.check_refused((STATUS, (b"x", b"y" * 20000)))

    def test_status_is_not_first(self):
        for pairs in (((b"a", b"b"),), ((b"a", b"b"), STATUS), ((b"", b""), STATUS), ((b":path", b"/"), STATUS)):
            self.check_refused(pairs)

    def test_status_by_another_name(self):
        for name in (b"status", b":Status", b":statu", b":status ", b":statuses", b"", b":", b":STATUS", b" :status"):
            self.check_refused(((name, b"200"),))

    def test_status_twice(self):
        self.check_refused((STATUS, STATUS))
        self.check_refused((STATUS, (b":status", b"404")))
        self.check_refused((STATUS, (b"a", b"b"), STATUS))

    def test_status_of_other_than_three_signs(self):
        for value in (b"", b"2", b"20", b"2000", b"20000", b"200" * 2):
            self.check_refused(((b":status", value),))

    def test_status_of_other_signs_than_digits(self):
        for byte in range(256):
            for value in ([byte, 48, 57], [50, byte, 52], [50, 48, byte]):
                if 48 <= byte <= 57:
                    self.assertEqual(after(request(1), answer(1, ((b":status", value),)))[0], [[0]])
                else:
                    self.assertEqual(after(request(1), answer(1, ((b":status", value),))), ([[-1]], []))

    def test_other_names_with_a_colon(self):
        for name in (b":path", b":method", b":scheme", b":authority", b":x", b":", b"a:b", b"a:"):
            self.check_refused((STATUS, (name, b"x")))
            self.check_refused((STATUS, (b"a", b"b"), (name, b"x")))

    def test_names_that_are_not_plain(self):
        for byte in range(256):
            if not 33 <= byte <= 126 or 65 <= byte <= 90:
                self.check_refused((STATUS, ([97, byte], b"x"), (b"a", b"b")))
        self.check_refused((STATUS, (b"", b"")))
        self.check_refused((STATUS, (b"", b"x")))

    def test_values_that_are_not_plain(self):
        for value in (b"\0", b"a\nb", b"a\rb", b"a\0", b" a", b"a ", b"\ta", b"a\t", b" ", b"\t"):
            self.check_refused((STATUS, (b"a", value)))
            self.check_refused((STATUS, (b"etag", value), (b"a", b"b")))

    def test_names_that_may_not_be(self):
        for name in (b"connection", b"keep-alive", b"proxy-connection", b"transfer-encoding", b"upgrade"):
            for value in (b"", b"x", b"trailers"):
                self.check_refused((STATUS, (name, value)))

    def test_te(self):
        for value in (b"", b"trailer", b"Trailers", b"trailers, x"):
            self.check_refused((STATUS, (b"te", value)))
        self.assertEqual(after(request(1), answer(1, (STATUS, (b"te", b"trailers"))))[0], [[0]])

    def test_the_last_of_many(self):
        self.check_refused((STATUS,) + ((b"a", b"b"),) * 50 + ((b"A", b"b"),))


class WrongStreamTest(RefusedTest):
    def test_streams_that_never_were(self):
        for stream in NEVER_STREAMS:
            self.check_refused((STATUS,), stream=stream)
            self.check_refused((STATUS,), stream=stream, last=1)
        self.assertEqual(run(BEGIN, answer(1, (STATUS,)))[1], [-1])

    def test_a_stream_whose_block_goes_on(self):
        answered, frames = after(frame(1, 1, 1, [130, 134]), answer(1, (STATUS,)), feed(frame(9, 4, 1, [132])),
                                 answer(1, (STATUS,)))
        self.assertEqual(answered, [[-1], [10], [0]])
        self.assertEqual(frames, [(1, 4, 1, [32, 136])])

    def test_streams_that_are_gone(self):
        gone = (
            request(5) + frame(3, 0, 5, four(8)),
            request(5) + frame(0, 0, 5, [1]),
            request(5) + frame(8, 0, 5, four(0)),
            request(5) + frame(2, 0, 5),
            request(5) + frame(1, 5, 5),
            frame(1, 5, 5, [130]),
            request(7) + request(5),
        )
        for row in gone:
            answered, frames = after(request(1) + row, answer(5, (STATUS,)), answer(1, (STATUS,)))
            self.assertEqual(answered, [[-1], [0]])
            self.assertEqual(frames, [(1, 4, 1, [32, 136])])

    def test_a_stream_that_was_reset_here(self):
        answered, frames = after(request(1), reset(1, 8), answer(1, (STATUS,)))
        self.assertEqual((answered, frames), ([[0], [-1]], [stream_fails(1, 8)]))

    def test_a_stream_of_too_many(self):
        asked = [byte for stream in range(1, 66, 2) for byte in request(stream)]
        self.assertEqual(after(asked, answer(65, (STATUS,)), answer(63, (STATUS,)))[0], [[-1], [0]])


class BegunTest(RefusedTest):
    def test_begun_already(self):
        for last in (0, 1, -1):
            answered, frames = after(request(1), answer(1, (STATUS,)), answer(1, (STATUS,), last), send(1, [5], 1))
            self.assertEqual(answered, [[0], [-1], [1]])
            self.assertEqual(frames, [(1, 4, 1, [32, 136]), (0, 1, 1, [5])])

    def test_begun_already_with_data_sent(self):
        answered, frames = after(request(1), answer(1, (STATUS,)), send(1, [5]), answer(1, ((b":status", b"404"),)))
        self.assertEqual(answered, [[0], [1], [-1]])
        self.assertEqual(len(frames), 2)

    def test_no_trailers_can_be_sent(self):
        answered, frames = after(request(1), answer(1, (STATUS,)), answer(1, ((b"a", b"b"),), 1))
        self.assertEqual((answered, len(frames)), ([[0], [-1]], 1))


class LineFailedTest(unittest.TestCase):
    def test_it_goes_before_all_others(self):
        for fail in (away(0), away(5), feed(frame(5, 0, 0)), feed([255] * 9)):
            for call in (answer(1, (STATUS,)), answer(1, (STATUS,), 1), answer(1, []), answer(1, [1]), answer(9, []),
                         answer(9, (STATUS,)), answer(-1, (STATUS,)), answer(1, (STATUS, (b"A", b"")))):
                answered, frames = after(request(1), fail, call)
                self.assertEqual(answered[1], [-4])
                self.assertEqual([sent[0] for sent in frames], [7])

    def test_it_goes_before_begun(self):
        answered, frames = after(request(1), answer(1, (STATUS,)), away(0), answer(1, (STATUS,)))
        self.assertEqual(answered, [[0], [0], [-4]])

    def test_it_goes_before_too_much(self):
        parts = after_full(feed(PING), away(0), answer(3, (STATUS,)), answer(9, []))
        self.assertEqual(parts, [[17], [0], [-4], [-4]])

    def test_from_the_first_bytes(self):
        self.assertEqual(run(BEGIN, feed([0]), answer(1, (STATUS,)))[2], [-4])


class TooMuchTest(unittest.TestCase):
    def test_just_65536(self):
        parts = after_full(answer(3, (STATUS,)), take(), take())
        self.assertEqual(parts[0], [0])
        self.assertEqual(parts[1][0], 65536)
        self.assertEqual(parts[2], [11] + frame(1, 4, 3, [32, 136]))

    def test_one_more(self):
        parts = after_full(feed(PING), take(16), answer(3, (STATUS,)), take(1), answer(3, (STATUS,)),
                                answer(3, (STATUS,)), take(), take())
        self.assertEqual(parts[2], [-2])
        self.assertEqual(parts[4:6], [[0], [-1]])
        self.assertEqual(parts[6][0], 65536)
        self.assertEqual(parts[7], [11] + frame(1, 4, 3, [32, 136]))

    def test_nothing_changes(self):
        parts = after_full(feed(PING), answer(3, (STATUS,), 1), take(), take(), answer(3, (STATUS,), 1), take(),
                                answer(3, (STATUS,)))
        self.assertEqual(parts[1], [-2])
        self.assertEqual(parts[3], [17] + frame(6, 1, 0, [5] * 8))
        self.assertEqual(parts[4:], [[0], [11] + frame(1, 5, 3, [32, 136]), [-1]])

    def test_what_is_not_right_goes_before(self):
        wrong = (answer(3, []), answer(3, [0]), answer(3, ((b"a", b"b"),)), answer(1, (STATUS,)), answer(5, (STATUS,)),
                 answer(0, (STATUS,)), answer(-3, (STATUS,)), answer(3, (STATUS, (b"A", b"b"))))
        parts = after_full(feed(PING), *wrong, answer(3, (STATUS,)))
        self.assertEqual(parts[1:], [[-1]] * len(wrong) + [[-2]])

    def test_begun_goes_before(self):
        parts = after_full(answer(3, (STATUS,)), answer(3, (STATUS,)))
        self.assertEqual(parts, [[0], [-1]])

    def test_an_answer_itself_may_be_what_is_too_much(self):
        parts = after_full(feed(request(5)), answer(3, (STATUS,)), answer(5, (STATUS,)), take(11),
                                answer(5, (STATUS,)))
        self.assertEqual(parts[1:3] + parts[4:], [[0], [-2], [0]])

    def test_what_is_to_be_told_does_not_matter(self):
        line = begin_line()
        row = START + request(1) + frame(7, 0, 0, [0] * 8) * 2100
        for place in range(0, len(row), 16384):
            feed_bytes(line, row[place:place + 16384])
        self.assertGreater(line.untold_weight, 65536)
        take_bytes(line, 65536)
        self.assertEqual(answer_stream(line, 1, handed(STATUS), True), 0)
        self.assertEqual(split_frames(take_bytes(line, 65536)[1:]), [(1, 5, 1, [32, 136])])


if __name__ == "__main__":
    unittest.main()
