"""Promise 5: header."""

import unittest

from tests.helpers import BEGIN, EVENT, START, feed, four, frame, header, request, run, spelled


class HeaderTest(unittest.TestCase):
    ROW = START + request(1, spelled(b"name", b"some value") + spelled(b"b", b""))

    def asked(self, *calls, row=ROW):
        return run(BEGIN, feed(row), EVENT, *calls)[3:]

    def test_each_of_them(self):
        self.assertEqual(self.asked(header(0), header(1), header(2), header(3), header(4)), [
            [10, 7] + list(b":methodGET"),
            [11, 7] + list(b":schemehttp"),
            [6, 5] + list(b":path/"),
            [14, 4] + list(b"namesome value"),
            [1, 1] + list(b"b"),
        ])

    def test_in_any_order_and_again(self):
        self.assertEqual(self.asked(header(4), header(2), header(2)),
                         [[1, 1, 98], [6, 5] + list(b":path/"), [6, 5] + list(b":path/")])

    def test_any_bytes_in_a_value(self):
        value = [1, 127, 128, 255]
        parts = self.asked(header(3), row=START + request(1, spelled(b"a", value)))
        self.assertEqual(parts, [[5, 1, 97] + value])

    def test_k_outside(self):
        for k in (-1, -2, -5, -2147483648, 5, 6, 2147483647):
            self.assertEqual(self.asked(header(k)), [[-1]], k)

    def test_k_outside_goes_before_most(self):
        for k in (-1, 5):
            for most in (0, -1, 65537):
                self.assertEqual(self.asked(header(k, most)), [[-1]])

    def test_most_just_enough(self):
        self.assertEqual(self.asked(header(3, 14), header(4, 1))[0][0], 14)
        self.assertEqual(self.asked(header(4, 1)), [[1, 1, 98]])

    def test_most_too_small(self):
        for most in (13, 4, 1):
            self.assertEqual(self.asked(header(3, most)), [[-2]])

    def test_most_outside_its_range(self):
        for most in (0, -1, 65537, 2147483647, -2147483648):
            for k in (0, 3, 4):
                self.assertEqual(self.asked(header(k, most)), [[-2]])

    def test_a_refusal_changes_nothing(self):
        self.assertEqual(self.asked(header(4, 0), header(9), header(4)), [[-2], [-1], [1, 1, 98]])

    def test_a_long_one(self):
        value = [7] * 12000
        row = START + request(1, spelled(b"a", value))
        parts = self.asked(header(3, 12000), header(3, 12001), row=row)
        self.assertEqual(parts, [[-2], [12001, 1, 97] + value])

    def test_trailers(self):
        row = START + request(1, last=False) + frame(1, 5, 1, spelled(b"t", b"u") + spelled(b"v", b"w"))
        parts = run(BEGIN, feed(row), EVENT, EVENT, header(0), header(1), header(2), header(-1))
        self.assertEqual(parts[4:], [[2, 1, 116, 117], [2, 1, 118, 119], [-1], [-1]])

    def test_no_trailers(self):
        row = START + request(1, last=False) + frame(1, 5, 1)
        self.assertEqual(run(BEGIN, feed(row), EVENT, EVENT, header(0))[4], [-1])

    def test_nothing_told(self):
        self.assertEqual(run(BEGIN, header(0))[1], [-1])
        # To be told, but not told yet.
        self.assertEqual(run(BEGIN, feed(self.ROW), header(0))[2], [-1])
        self.assertEqual(run(BEGIN, feed(self.ROW), EVENT, EVENT, header(0))[4], [-1])

    def test_other_things_told(self):
        asked = START + request(1, last=False)
        for more in (frame(0, 0, 1, [1, 2, 3]), frame(3, 0, 1, four(1)), frame(7, 0, 0, [0] * 8)):
            parts = run(BEGIN, feed(asked + more), EVENT, EVENT, header(0), header(0, 0), header(1))
            self.assertNotEqual(parts[3][0], 0)
            self.assertEqual(parts[4:], [[-1], [-1], [-1]])

    def test_of_the_request_told_now(self):
        row = START + request(1, spelled(b"a", b"1")) + request(3, spelled(b"a", b"2"))
        parts = run(BEGIN, feed(row), EVENT, header(3), EVENT, header(3))
        self.assertEqual([parts[3], parts[5]], [[2, 1, 97, 49], [2, 1, 97, 50]])

    def test_it_lasts_though_the_line_fails(self):
        parts = run(BEGIN, feed(self.ROW), EVENT, feed(frame(5, 0, 0)), header(4))
        self.assertEqual(parts[4], [1, 1, 98])


if __name__ == "__main__":
    unittest.main()
