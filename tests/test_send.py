"""Promise 8: send."""

import unittest

from tests.helpers import (
    BEGIN, EVENT, LARGEST, PING, START, STATUS, after, after_full, answer, away, data, feed, four, frame, request,
    reset, room, run, send, setting, spelled, stream_fails, take,
)

NOT_0 = (1, 2, -1, 256, LARGEST, -LARGEST - 1)
BEGUN = (1, 4, 1, [32, 136])


def counted(count):
    return [k % 251 for k in range(count)]


def first_window(size):
    return frame(4, 0, 0, setting(4, size))


def grow(stream, size):
    return feed(frame(8, 0, stream, four(size)))


def begun(row, *calls):
    """As after, with an answer begun on stream 1; that is left out of what is answered and sent."""
    answered, frames = after(row, answer(1, (STATUS,)), *calls)
    assert answered[0] == [0] and frames[0] == BEGUN
    return answered[1:], frames[1:]


def data_in(frames):
    """The flags of each frame of data, and how many bytes are in it."""
    return [(flags, len(body)) for kind, flags, stream, body in frames if kind == 0]


class FramesTest(unittest.TestCase):
    def test_byte_by_byte(self):
        parts = run(BEGIN, feed(START + request(1)), answer(1, (STATUS,)), take(), send(1, [7, 0, 255]), take(),
                    send(1, [8], 1), take())
        self.assertEqual(parts[4:], [
            [3], [12, 0, 0, 3, 0, 0, 0, 0, 0, 1, 7, 0, 255], [1], [10, 0, 0, 1, 0, 1, 0, 0, 0, 1, 8],
        ])

    def test_one_behind_another(self):
        self.assertEqual(begun(request(1), send(1, [1, 2]), send(1, [3]), send(1, [4])),
                         ([[2], [1], [1]], [(0, 0, 1, [1, 2]), (0, 0, 1, [3]), (0, 0, 1, [4])]))

    def test_how_long_frames_are(self):
        for count, lengths in (
            (1, [1]), (16383, [16383]), (16384, [16384]), (16385, [16384, 1]), (29000, [16384, 12616]),
            (32768, [16384, 16384]), (32769, [16384, 16384, 1]), (65535, [16384, 16384, 16384, 16383]),
        ):
            row = counted(count)
            answered, frames = begun(request(1), send(1, row))
            self.assertEqual(answered, [[count]])
            self.assertEqual(data_in(frames), [(0, length) for length in lengths])
            self.assertEqual([byte for sent in frames for byte in sent[3]], row)

    def test_the_last_one_alone_is_the_last(self):
        for count, lengths in ((1, [1]), (16384, [16384]), (16385, [16384, 1]), (32768, [16384, 16384])):
            row = counted(count)
            answered, frames = begun(request(1), send(1, row, 1))
            self.assertEqual(answered, [[count]])
            self.assertEqual(data_in(frames), [(0, length) for length in lengths[:-1]] + [(1, lengths[-1])])
            self.assertEqual([byte for sent in frames for byte in sent[3]], row)
            self.assertEqual([sent[2] for sent in frames], [1] * len(lengths))

    def test_no_bytes(self):
        self.assertEqual(begun(request(1), send(1, []), send(1, [], 0)), ([[0], [0]], []))
        self.assertEqual(begun(request(1, last=False), send(1, [])), ([[0]], []))

    def test_no_bytes_and_the_last(self):
        for last in NOT_0:
            self.assertEqual(begun(request(1), send(1, [], last)), ([[0]], [(0, 1, 1, [])]))

    def test_no_bytes_and_the_last_without_a_window(self):
        for changes in (first_window(0), first_window(0) + frame(8, 0, 0, four(5))):
            self.assertEqual(begun(changes + request(1), send(1, []), send(1, [], 1)), ([[0], [0]], [(0, 1, 1, [])]))
        answered, frames = begun(request(1), send(1, [5] * 20), feed(first_window(10)), send(1, [], 1))
        self.assertEqual(frames[1:], [(4, 1, 0, []), (0, 1, 1, [])])

    def test_other_streams(self):
        for stream in (3, 257, LARGEST):
            answered, frames = after(request(1) + request(stream), answer(stream, (STATUS,)), send(stream, [6]))
            self.assertEqual(frames[1:], [(0, 0, stream, [6])])

    def test_mixed(self):
        answered, frames = after(request(1) + request(3), answer(1, (STATUS,)), answer(3, (STATUS,)), send(3, [3]),
                                 send(1, [1]), send(3, [4], 1), send(1, [2], 1))
        self.assertEqual(answered[2:], [[1]] * 4)
        self.assertEqual(frames[2:], [(0, 0, 3, [3]), (0, 0, 1, [1]), (0, 1, 3, [4]), (0, 1, 1, [2])])


class WindowTest(unittest.TestCase):
    def test_both_enough(self):
        self.assertEqual(begun(first_window(5) + request(1), send(1, [1] * 5)), ([[5]], [(0, 0, 1, [1] * 5)]))
        self.assertEqual(begun(first_window(6) + request(1), send(1, [1] * 5)), ([[5]], [(0, 0, 1, [1] * 5)]))

    def test_the_streams_is_smaller(self):
        row = counted(20)
        answered, frames = begun(first_window(5) + request(1), send(1, row), send(1, row[5:]), grow(1, 3),
                                 send(1, row[5:]), grow(1, 100), send(1, row[8:]))
        self.assertEqual(answered, [[5], [0], [13], [3], [13], [12]])
        self.assertEqual(frames, [(0, 0, 1, row[:5]), (0, 0, 1, row[5:8]), (0, 0, 1, row[8:])])

    def test_the_lines_is_smaller(self):
        answered, frames = begun(first_window(LARGEST) + request(1), send(1, counted(65530)), take(),
                                 send(1, counted(10)), send(1, [1]), grow(0, 2), send(1, [7, 8, 9]), send(1, [9]))
        self.assertEqual([answered[k] for k in (0, 2, 3, 5, 6)], [[65530], [5], [0], [2], [0]])
        self.assertEqual(frames[4:], [(0, 0, 1, counted(5)), (0, 0, 1, [7, 8])])

    def test_the_lines_is_shared(self):
        answered, frames = after(request(1) + request(3), answer(1, (STATUS,)), answer(3, (STATUS,)),
                                 send(3, [1] * 65000), take(), send(1, [2] * 600), send(1, [2] * 600), send(3, [1]),
                                 grow(0, 70), send(3, [1] * 69), send(1, [1] * 69))
        self.assertEqual([answered[k] for k in (2, 4, 5, 6, 8, 9)], [[65000], [535], [0], [0], [69], [1]])

    def test_the_streams_is_its_own(self):
        answered, frames = after(first_window(10) + request(1) + request(3), answer(1, (STATUS,)),
                                 answer(3, (STATUS,)), send(1, [1] * 10), send(3, [1] * 8), send(1, [1]),
                                 send(3, [1] * 8), grow(1, 1), send(3, [1]), send(1, [1, 1]))
        self.assertEqual([answered[k] for k in (2, 3, 4, 5, 7, 8)], [[10], [8], [0], [2], [0], [1]])

    def test_the_streams_is_0(self):
        self.assertEqual(begun(first_window(0) + request(1), send(1, [1]), send(1, [1], 1)), ([[0], [0]], []))

    def test_the_lines_is_0(self):
        answered, frames = begun(first_window(LARGEST) + request(1), send(1, [1] * 65535), take(),
                                 send(1, [1]), send(1, [1], 1), send(1, [], 0))
        self.assertEqual([answered[0]] + answered[2:], [[65535], [0], [0], [0]])
        self.assertEqual(data_in(frames), [(0, 16384)] * 3 + [(0, 16383)])

    def test_the_lines_is_0_and_the_last_of_no_bytes(self):
        answered, frames = begun(request(1), send(1, [1] * 65535), take(), send(1, [], 1))
        self.assertEqual((answered[2:], frames[4:]), ([[0]], [(0, 1, 1, [])]))

    def test_below_0_by_settings(self):
        answered, frames = begun(first_window(10) + request(1), send(1, [1] * 8), feed(first_window(5)),
                                 send(1, [2]), grow(1, 2), send(1, [3]), grow(1, 1), send(1, [4]), grow(1, 1),
                                 send(1, [5, 6]), send(1, [7]))
        self.assertEqual([answered[k] for k in (0, 2, 4, 6, 8, 9)], [[8], [0], [0], [0], [1], [0]])
        self.assertEqual(data_in(frames), [(0, 8), (0, 1)])
        self.assertEqual(frames[-1], (0, 0, 1, [5]))

    def test_below_0_and_up_again_by_settings(self):
        answered, frames = begun(first_window(10) + request(1), send(1, [1] * 8), feed(first_window(0)),
                                 send(1, [2]), send(1, [2], 1), feed(first_window(8)), send(1, [3]),
                                 feed(first_window(11)), send(1, [4] * 9))
        self.assertEqual([answered[k] for k in (0, 2, 3, 5, 7)], [[8], [0], [0], [0], [3]])
        self.assertEqual(data_in(frames), [(0, 8), (0, 3)])

    def test_far_below_0(self):
        answered, frames = begun(request(1), send(1, [1] * 20000), feed(first_window(0)), send(1, [2]),
                                 feed(first_window(LARGEST)), send(1, [3] * 5), grow(1, 20000), send(1, [4]),
                                 grow(1, 6), send(1, [4]))
        self.assertEqual([answered[k] for k in (0, 2, 4, 6, 8)], [[20000], [0], [5], [1], [1]])
        self.assertNotIn(3, [sent[0] for sent in frames])

    def test_not_below_0_of_the_line(self):
        # Settings change streams alone: the line has 65535 still.
        answered, frames = begun(first_window(0) + request(1), grow(1, 65535), send(1, [1] * 65535))
        self.assertEqual(answered[1], [65535])

    def test_the_first_window_is_65535(self):
        answered, frames = begun(request(1) + frame(8, 0, 0, four(1000)), send(1, [1] * 65536), send(1, [1]),
                                 take(), send(1, [1]))
        self.assertEqual(answered[:2] + answered[3:], [[65535], [-2], [0]])

    def test_a_streams_window_may_grow_before_it_is_answered(self):
        answered, frames = after(first_window(2) + request(1), grow(1, 2), answer(1, (STATUS,)), send(1, [1] * 9))
        self.assertEqual(answered[2], [4])

    def test_what_was_sent_leaves_room_for_growth(self):
        full = frame(8, 0, 1, four(LARGEST - 65535))
        answered, frames = begun(request(1) + full, send(1, [1] * 3), grow(1, 3), grow(1, 1), send(1, [1]))
        self.assertEqual(answered[3], [-1])
        self.assertEqual(frames[1:], [stream_fails(1, 3)])
        answered, frames = begun(request(1) + frame(8, 0, 0, four(LARGEST - 65535)), send(1, [1] * 3), grow(0, 3),
                                 grow(0, 1))
        self.assertEqual(frames[1:], [(7, 0, 0, four(1) + four(3))])

    def test_no_bytes_use_up_nothing(self):
        answered, frames = begun(first_window(3) + request(1), send(1, []), send(1, []), send(1, [1] * 5))
        self.assertEqual(answered, [[0], [0], [3]])


class LastTest(unittest.TestCase):
    def test_all_go(self):
        for last in NOT_0:
            self.assertEqual(begun(request(1), send(1, [5, 6], last)), ([[2]], [(0, 1, 1, [5, 6])]))
        self.assertEqual(begun(first_window(2) + request(1), send(1, [5, 6], 1)), ([[2]], [(0, 1, 1, [5, 6])]))

    def test_not_all_go(self):
        for last in NOT_0:
            answered, frames = begun(first_window(2) + request(1), send(1, [5, 6, 7], last), send(1, [7], last),
                                     grow(1, 1), send(1, [7], last), send(1, [7]))
            self.assertEqual(answered, [[2], [0], [13], [1], [-1]])
            self.assertEqual(frames, [(0, 0, 1, [5, 6]), (0, 1, 1, [7])])

    def test_not_all_of_many_go(self):
        answered, frames = begun(first_window(16384) + request(1), send(1, [5] * 16385, 1), reset(1, 0))
        self.assertEqual(answered, [[16384], [0]])
        self.assertEqual(data_in(frames), [(0, 16384)])
        answered, frames = begun(first_window(16384) + request(1), send(1, [5] * 16384, 1), reset(1, 0))
        self.assertEqual(answered, [[16384], [-1]])
        self.assertEqual(data_in(frames), [(1, 16384)])

    def test_with_more_to_come(self):
        for row in ([], [5], [5] * 16385):
            answered, frames = begun(request(1, last=False), send(1, row, 1), send(1, [5]))
            self.assertEqual(answered, [[len(row)], [-1]])
            self.assertEqual(frames[-2][:3], (0, 1, 1))
            self.assertEqual(frames[-1], stream_fails(1, 0))

    def test_with_no_more_to_come(self):
        for end in (frame(0, 1, 1, [1]), frame(1, 5, 1, spelled(b"a", b"b"))):
            answered, frames = begun(request(1, last=False) + end, send(1, [5], 1), send(1, [5]))
            self.assertEqual((answered, frames), ([[1], [-1]], [(0, 1, 1, [5])]))

    def test_the_end_comes_while_it_is_answered(self):
        answered, frames = begun(request(1, last=False), send(1, [5]), feed(frame(0, 1, 1)), send(1, [6], 1))
        self.assertEqual(frames, [(0, 0, 1, [5]), (0, 1, 1, [6])])

    def test_it_is_gone_for_the_calls(self):
        for last in (False, True):
            answered, frames = begun(request(1, last=last), send(1, [5], 1), answer(1, (STATUS,)), send(1, []),
                                     send(1, [], 1), reset(1, 1))
            self.assertEqual(answered, [[1], [-1], [-1], [-1], [-1]])

    def test_it_is_gone_for_what_comes(self):
        came = frame(0, 0, 1, [1, 2]) + frame(8, 0, 1, four(0)) + frame(3, 0, 1, four(1)) + frame(1, 5, 1)
        for last in (False, True):
            answered, frames = begun(request(1, last=last), send(1, [5], 1), feed(came), EVENT, EVENT)
            self.assertEqual(answered[2:], [[1, 1, 1 if last else 0, 3, 0], [0] * 5])
            self.assertEqual(frames[-3:], [room(0, 2), stream_fails(1, 5), stream_fails(1, 5)])

    def test_it_is_not_gone_before(self):
        answered, frames = begun(request(1, last=False), send(1, [5]), feed(frame(0, 0, 1, [1])), EVENT, EVENT, data())
        self.assertEqual(answered[2:], [[1, 1, 0, 3, 0], [3, 1, 0, 1, 0], [1, 1]])
        self.assertEqual(frames[1:], [room(0, 1), room(1, 1)])

    def test_there_is_room_for_another_stream(self):
        asked = [byte for stream in range(1, 64, 2) for byte in request(stream)]
        for last, failing in ((0, [stream_fails(65, 7)]), (1, [])):
            answered, frames = begun(asked, send(1, [5], last), feed(request(65)))
            self.assertEqual(frames[1:], failing)

    def test_its_window_changes_no_longer(self):
        answered, frames = begun(request(1) + frame(8, 0, 1, four(LARGEST - 65535)), send(1, [5], 1),
                                 feed(first_window(65537)))
        self.assertEqual(frames[1:], [(4, 1, 0, [])])


class RefusedTest(unittest.TestCase):
    def test_streams_that_never_were(self):
        for stream in (0, 2, 4, 3, 5, LARGEST, LARGEST - 1, -1, -2, -LARGEST - 1):
            for row, last in (([], 0), ([], 1), ([5], 0), ([5], 1)):
                self.assertEqual(begun(request(1), send(stream, row, last), send(1, [6])),
                                 ([[-1], [1]], [(0, 0, 1, [6])]))
        self.assertEqual(run(BEGIN, send(1, [5]))[1], [-1])

    def test_streams_that_are_gone(self):
        gone = (frame(3, 0, 1, four(8)), frame(0, 0, 1, [1]), frame(8, 0, 1, four(0)), frame(2, 0, 1), frame(1, 5, 1))
        for row in gone:
            answered, frames = begun(request(1), feed(row), send(1, [5]), send(1, [], 1))
            self.assertEqual(answered[1:], [[-1], [-1]])
            self.assertEqual(frames, begun(request(1), feed(row))[1])

    def test_a_stream_that_was_reset_here(self):
        self.assertEqual(begun(request(1), reset(1, 8), send(1, [5])), ([[0], [-1]], [stream_fails(1, 8)]))

    def test_its_answer_has_not_begun(self):
        for row, last in (([], 0), ([], 1), ([5], 0), ([5], 1)):
            answered, frames = after(request(1), send(1, row, last), answer(1, (STATUS,)), send(1, [6], 1))
            self.assertEqual((answered, frames), ([[-1], [0], [1]], [BEGUN, (0, 1, 1, [6])]))

    def test_another_answer_has_begun(self):
        self.assertEqual(begun(request(1) + request(3), send(3, [5]), send(1, [5])), ([[-1], [1]], [(0, 0, 1, [5])]))

    def test_a_refused_answer_has_not_begun(self):
        answered, frames = after(request(1), answer(1, []), send(1, [5]))
        self.assertEqual((answered, frames), ([[-1], [-1]], []))

    def test_more_than_65536_bytes(self):
        roomy = request(1) + frame(8, 0, 0, four(100000)) + frame(8, 0, 1, four(100000))
        for count, number in ((65535, 65535), (65536, 65536), (65537, -1), (70000, -1)):
            for last in (0, 1):
                answered, frames = begun(roomy, send(1, [1] * count, last))
                self.assertEqual(answered, [[number]])
                self.assertEqual(len(frames), 0 if number == -1 else 4)

    def test_more_than_65536_bytes_change_nothing(self):
        answered, frames = begun(request(1), send(1, [1] * 65537, 1), send(1, [2] * 65535))
        self.assertEqual(answered, [[-1], [65535]])

    def test_the_line_has_failed(self):
        for fail in (away(0), feed(frame(5, 0, 0)), feed([255] * 9)):
            for call in (send(1, [5]), send(1, [], 1), send(3, [5]), send(5, [5]), send(0, []), send(-1, [5]),
                         send(1, [5] * 65537)):
                answered, frames = begun(request(1) + request(3), fail, call)
                self.assertEqual(answered[1], [-4])
                self.assertEqual([sent[0] for sent in frames], [7])

    def test_the_line_has_failed_goes_before_too_much(self):
        parts = after_full(answer(3, (STATUS,)), away(0), send(3, [5]), send(1, [5]))
        self.assertEqual(parts, [[0], [0], [-4], [-4]])


class TooMuchTest(unittest.TestCase):
    def test_just_65536(self):
        # The answer makes 11 that are to be sent.
        parts = after_full(answer(3, (STATUS,)), take(11), send(3, [5, 6]), send(3, [7]), take(), take())
        self.assertEqual(parts[0], [0])
        self.assertEqual(parts[2:4], [[2], [-2]])
        self.assertEqual(parts[4][0], 65536)
        self.assertEqual(parts[5], [11] + frame(0, 0, 3, [5, 6]))

    def test_one_more(self):
        parts = after_full(answer(3, (STATUS,)), take(10), send(3, [5], 1), send(3, []), send(3, [], 1), take(1),
                           send(3, [5], 1), send(3, [5]), take(), take())
        self.assertEqual(parts[2:5], [[-2], [-2], [-2]])
        self.assertEqual(parts[6:8], [[1], [-1]])
        self.assertEqual(parts[9], [10] + frame(0, 1, 3, [5]))

    def test_nothing_changes(self):
        parts = after_full(answer(3, (STATUS,)), send(3, [5, 6], 1), take(), take(), send(3, [5, 6], 1), take())
        self.assertEqual(parts[1], [-2])
        self.assertEqual(parts[3], [11] + frame(1, 4, 3, [32, 136]))
        self.assertEqual(parts[4:], [[2], [11] + frame(0, 1, 3, [5, 6])])

    def test_the_windows_do_not_change(self):
        parts = after_full(take(20), feed(first_window(3)), answer(3, (STATUS,)), feed(PING), send(3, [5, 6, 7]),
                           take(), take(), send(3, [5, 6, 7, 8]), take())
        self.assertEqual(parts[2:5], [[0], [17], [-2]])
        self.assertEqual(parts[7:], [[3], [12] + frame(0, 0, 3, [5, 6, 7])])

    def test_what_is_not_right_goes_before(self):
        wrong = (send(1, [5]), send(5, [5]), send(0, []), send(-3, [5]), send(2, [5]))
        parts = after_full(feed(PING), *wrong, send(3, [5]))
        self.assertEqual(parts[1:], [[-1]] * (len(wrong) + 1))
        parts = after_full(answer(3, (STATUS,)), *wrong, send(3, [5] * 65537), send(3, [5]))
        self.assertEqual(parts[1:], [[-1]] * (len(wrong) + 1) + [[-2]])


if __name__ == "__main__":
    unittest.main()
