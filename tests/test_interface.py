"""The interface: manyonline.desk.answers."""

import unittest

import manyonline.desk
from tests.helpers import (
    BEGIN, EVENT, START, feed, four, frame, header, kept, request, run, split_answers, split_frames, take,
)


def joined(*calls):
    return [number for call in calls for number in call]


class AnswersTest(unittest.TestCase):
    CALLS = joined(
        BEGIN, feed(START + request(1, kept(b"a", b"b"), False) + frame(0, 0, 1, [1, 2])), take(20), EVENT,
        header(3), header(4), header(3, 0), EVENT, take(), EVENT, BEGIN, feed([]), feed([80, 81]), take(0), take(),
    )

    def test_the_empty_list(self):
        self.assertEqual(manyonline.desk.answers([]), [])

    def test_the_form_of_what_is_given_back(self):
        calls = joined(BEGIN, feed([80, 82]), take(3), take(0), EVENT, header(0), take(-1))
        self.assertEqual(manyonline.desk.answers(calls),
                         [1, 0, 1, 2, 4, 3, 0, 0, 6, 1, 0, 5, 0, 0, 0, 0, 0, 1, -1, 1, 0])

    def test_plain_numbers_in_a_list(self):
        answered = manyonline.desk.answers(list(self.CALLS))
        self.assertIs(type(answered), list)
        for number in answered:
            self.assertIs(type(number), int)
        self.assertEqual(len(split_answers(answered)), 15)

    def test_the_list_is_the_same_afterwards(self):
        calls = list(self.CALLS)
        manyonline.desk.answers(calls)
        self.assertEqual(calls, self.CALLS)

    def test_the_list_is_never_changed(self):
        class Watched(list):
            def refuse(self, *given):
                raise AssertionError("the list was changed")

            __setitem__ = __delitem__ = __iadd__ = __imul__ = refuse
            append = extend = insert = pop = remove = clear = reverse = sort = refuse

        self.assertEqual(manyonline.desk.answers(Watched(self.CALLS)), manyonline.desk.answers(self.CALLS))

    def test_what_is_given_back_is_another_list_each_time(self):
        first = manyonline.desk.answers(self.CALLS)
        kept_copy = list(first)
        second = manyonline.desk.answers(self.CALLS)
        self.assertIsNot(first, second)
        second.clear()
        self.assertEqual(first, kept_copy)

    def test_the_same_list_twice(self):
        first = manyonline.desk.answers(self.CALLS)
        self.assertEqual(manyonline.desk.answers(self.CALLS), first)
        manyonline.desk.answers(joined(BEGIN, feed(START + request(1, kept(b"x", b"y")) + frame(5, 0, 0)), EVENT))
        self.assertEqual(manyonline.desk.answers(self.CALLS), first)

    def test_nothing_is_kept_from_one_list_to_the_next(self):
        manyonline.desk.answers(joined(BEGIN, feed(START + request(1, kept(b"x", b"y")))))
        self.assertEqual(run(EVENT, take(), header(0)), [[0, 0, 0, 0, 0], [0], [-1]])

    def test_every_size_that_may_be(self):
        row = START + frame(77, 0, 0, [1] * 16384)
        calls = joined(BEGIN, feed(row[:16384]), feed(row[16384:]), *[EVENT] * 297)
        self.assertEqual(len(split_answers(manyonline.desk.answers(calls))), 300)
        pings = frame(6, 0, 0, [1] * 8) * 1760
        calls = joined(BEGIN, feed((START + pings)[:16384]), feed((START + pings)[16384:]), take())
        self.assertLessEqual(len(calls), 30000)
        self.assertEqual(len(split_frames(run(calls)[3][1:])), 1762)

    def test_many_headers_in_a_list(self):
        block = [132] * 1700
        calls = joined(BEGIN, feed(START + frame(1, 5, 1, [130, 134] + block) + frame(1, 5, 3, [130, 134, 132])), EVENT,
                       take())
        parts = run(calls)
        self.assertEqual(parts[2], [1, 3, 1, 3, 0])
        self.assertEqual(split_frames(parts[3][1:])[2:], [(3, 0, 1, four(1))])

    def test_numbers_at_the_ends_of_their_range(self):
        for number in (2147483647, -2147483648):
            self.assertEqual(run(BEGIN, take(number), header(number, number)), [[0], [0], [-1]])


if __name__ == "__main__":
    unittest.main()
