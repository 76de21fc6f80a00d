"""The interface: manyonline.desk.answers."""

import unittest

import manyonline.desk
from tests.helpers import (
    BEGIN, EVENT, LARGEST, OWN_SETTINGS, START, STATUS, answer, away, data, feed, four, frame, header, kept, line_fails,
    request, reset, room, run, send, split_answers, split_frames, stream_fails, take,
)


def joined(*calls):
    return [number for call in calls for number in call]


class AnswersTest(unittest.TestCase):
    ASKED = START + request(1, kept(b"a", b"b"), False) + frame(0, 0, 1, [1, 2])
    CALLS = joined(
        BEGIN, feed(ASKED), take(20), EVENT, header(3), header(4), header(3, 0), EVENT, data(), data(1),
        answer(1, (STATUS, (b"a", b"b")), 0), send(1, [3, 4], 0), send(1, [], 1), send(1, []), take(), EVENT,
        BEGIN, feed([]), feed(ASKED), take(0), reset(3, 1), reset(1, 1), answer(1, (STATUS,)), take(),
        feed(request(3)), answer(3, ((b":status", b"404"),), 1), EVENT, away(-1), away(2), feed([80, 81]), reset(3, 0),
        take(), BEGIN, take(),
    )

    def test_the_empty_list(self):
        self.assertEqual(manyonline.desk.answers([]), [])

    def test_the_form_of_what_is_given_back(self):
        calls = joined(BEGIN, feed([80, 82]), take(3), take(0), EVENT, header(0), take(-1))
        self.assertEqual(manyonline.desk.answers(calls),
                         [1, 0, 1, 2, 4, 3, 0, 0, 6, 1, 0, 5, 0, 0, 0, 0, 0, 1, -1, 1, 0])

    def test_plain_numbers_in_a_list(self):
        answered = manyonline.desk.answers(list(self.CALLS))
        self.assertIs(type(answered), list)
        for number in answered:
            self.assertIs(type(number), int)
        self.assertEqual(len(split_answers(answered)), 34)

    def test_all_ten_calls_and_begin_among_them(self):
        own = OWN_SETTINGS + frame(4, 1, 0)
        rooms = frame(8, 0, 0, four(2)) + frame(8, 0, 1, four(2))
        parts = split_answers(manyonline.desk.answers(list(self.CALLS)))
        self.assertEqual(parts[:10], [
            [0], [len(self.ASKED)], [20] + own[:20], [1, 1, 0, 4, 0], [2, 1, 97, 98], [-1], [-2], [3, 1, 0, 2, 0],
            [2, 1, 2], [-2],
        ])
        self.assertEqual(parts[10:14], [[0], [2], [0], [-1]])
        self.assertEqual(parts[14][1:], own[20:] + rooms + frame(1, 4, 1, [32, 136, 0, 1, 97, 1, 98]) +
                         frame(0, 0, 1, [3, 4]) + frame(0, 1, 1) + frame(3, 0, 1, four(0)))
        self.assertEqual(parts[15:23], [[0] * 5, [0], [0], [len(self.ASKED)], [0], [-1], [0], [-1]])
        self.assertEqual(split_frames(parts[23][1:])[2:], [room(0, 2), room(1, 2), stream_fails(1, 1)])
        self.assertEqual(parts[24:31], [[len(request(3))], [0], [1, 1, 0, 4, 0], [-1], [0], [2], [-4]])
        self.assertEqual(split_frames(parts[31][1:]), [(1, 5, 3, [32, 141]), line_fails(2, 3)])
        self.assertEqual(parts[32:], [[0], [15] + OWN_SETTINGS])

    def test_plain_numbers_that_are_answered(self):
        calls = joined(BEGIN, feed(START + request(1)), answer(1, (STATUS,)), send(1, [5]), reset(1, 0), away(0))
        self.assertEqual(manyonline.desk.answers(calls), [1, 0, 1, len(START + request(1)), 1, 0, 1, 1, 1, 0, 1, 0])

    def test_where_the_numbers_of_a_call_stand(self):
        asked = START + request(1) + request(3)
        calls = joined(BEGIN, feed(asked), take(), [6, 3, 0, 14, 0, 7, 0, 3], list(b":status200"),
                       [7, 3, 1, 2, 8, 9], [8, 1, 5], [9, 7], take())
        parts = split_answers(manyonline.desk.answers(calls))
        self.assertEqual(parts[3:7], [[0], [2], [0], [0]])
        self.assertEqual(split_frames(parts[7][1:]),
                         [(1, 4, 3, [32, 136]), (0, 1, 3, [8, 9]), stream_fails(1, 5), line_fails(7, 3)])

    def test_rows_without_numbers(self):
        calls = joined(BEGIN, feed(START + request(1)), [6, 1, 0, 0], [7, 1, 0, 0], [1, 0], answer(1, (STATUS,)),
                       [7, 1, 0, 0], [7, 1, 1, 0], [2, 0])
        self.assertEqual(split_answers(manyonline.desk.answers(calls))[2:],
                         [[-1], [-1], [0], [0], [0], [0], [0]])

    def test_the_list_is_the_same_afterwards(self):
        calls = list(self.CALLS)
        manyonline.desk.answers(calls)
        self.assertEqual(calls, self.CALLS)

    def test_the_list_is_never_changed(self):
        class Watched(list):
            def refuse(self, *given):
                raise AssertionError("the list was changed")

            __setitem__ = __delitem__ = __iadd__ = __imul__ = refuse
            append = extend = insert = pop = remove = clear = reverse = sort = refuse

        self.assertEqual(manyonline.desk.answers(Watched(self.CALLS)), manyonline.desk.answers(self.CALLS))

    def test_what_is_given_back_is_another_list_each_time(self):
        first = manyonline.desk.answers(self.CALLS)
        kept_copy = list(first)
        second = manyonline.desk.answers(self.CALLS)
        self.assertIsNot(first, second)
        second.clear()
        self.assertEqual(first, kept_copy)

    def test_the_same_list_twice(self):
        first = manyonline.desk.answers(self.CALLS)
        self.assertEqual(manyonline.desk.answers(self.CALLS), first)
        manyonline.desk.answers(joined(BEGIN, feed(START + request(1, kept(b"x", b"y")) + frame(5, 0, 0)), EVENT))
        self.assertEqual(manyonline.desk.answers(self.CALLS), first)

    def test_nothing_is_kept_from_one_list_to_the_next(self):
        manyonline.desk.answers(joined(BEGIN, feed(START + request(1, kept(b"x", b"y")))))
        self.assertEqual(run(EVENT, take(), header(0)), [[0, 0, 0, 0, 0], [0], [-1]])

    def test_every_size_that_may_be(self):
        row = START + frame(77, 0, 0, [1] * 16384)
        calls = joined(BEGIN, feed(row[:16384]), feed(row[16384:]), *[EVENT] * 297)
        self.assertEqual(len(split_answers(manyonline.desk.answers(calls))), 300)
        pings = frame(6, 0, 0, [1] * 8) * 1760
        calls = joined(BEGIN, feed((START + pings)[:16384]), feed((START + pings)[16384:]), take())
        self.assertLessEqual(len(calls), 30000)
        self.assertEqual(len(split_frames(run(calls)[3][1:])), 1762)

    def test_many_headers_in_a_list(self):
        block = [132] * 1700
        calls = joined(BEGIN, feed(START + frame(1, 5, 1, [130, 134] + block) + frame(1, 5, 3, [130, 134, 132])), EVENT,
                       take())
        parts = run(calls)
        self.assertEqual(parts[2], [1, 3, 1, 3, 0])
        self.assertEqual(split_frames(parts[3][1:])[2:], [(3, 0, 1, four(1))])

    def test_numbers_at_the_ends_of_their_range(self):
        for number in (LARGEST, -LARGEST - 1):
            self.assertEqual(run(BEGIN, take(number), header(number, number), data(number)), [[0], [0], [-1], [-1]])
            self.assertEqual(run(BEGIN, answer(number, (STATUS,), number), send(number, [5], number),
                                 reset(number, number), reset(1, number)), [[0], [-1], [-1], [-1], [-1]])
        self.assertEqual(run(BEGIN, away(-LARGEST - 1), away(LARGEST)), [[0], [-1], [0]])

    def test_as_long_as_a_list_may_be(self):
        before = joined(BEGIN, feed(START + request(1)), answer(1, (STATUS,)), take())
        count = 30000 - len(before) - len(send(1, [])) - len(take())
        calls = joined(before, send(1, [5] * count, 1), take())
        self.assertEqual(len(calls), 30000)
        parts = split_answers(manyonline.desk.answers(calls))
        self.assertEqual(parts[4], [count])
        self.assertEqual(split_frames(parts[5][1:]), [(0, 0, 1, [5] * 16384), (0, 1, 1, [5] * (count - 16384))])


if __name__ == "__main__":
    unittest.main()
