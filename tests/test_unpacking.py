"""Promise 2: blocks that are unpacked, by the fixed table and the other table."""

import unittest

from manyonline.table import Table
from manyonline.unpacking import BlockReader, WrongBlock, unpack
from tests.appendix import fixed_pairs
from tests.helpers import (
    GET, Outcome, frame, headers_told, indexed, kept, line_fails, number, request, resized, sent, spelled,
    stream_fails, text, told,
)

def pairs(block, table=None):
    """A block's headers as pairs of bytes, or None where it's wrong."""
    try:
        headers = unpack(list(block), Table() if table is None else table)
    except WrongBlock:
        return None
    return [(bytes(header.name), bytes(header.value)) for header in headers]


class NumberTest(unittest.TestCase):
    def read(self, row, ones):
        reader = BlockReader(row)
        return reader.read_number(ones), reader.place

    def test_in_the_byte_itself(self):
        for ones in (15, 31, 63, 127):
            for value in (0, 1, ones - 1):
                self.assertEqual(self.read([value], ones), (value, 1))
                self.assertEqual(self.read([value + 255 - ones, 9], ones), (value, 1))

    def test_of_two_to_five_bytes(self):
        for ones in (15, 31, 63, 127):
            for more in (0, 1, 127, 128, 16383, 16384, 2097151, 2097152, 268435455):
                row = number(ones + more, ones)
                self.assertEqual(self.read(row + [255], ones), (ones + more, len(row)))

    def test_the_lower_bits_come_first(self):
        self.assertEqual(self.read([31, 154, 10], 31), (1337, 3))

    def test_more_bytes_than_are_needed(self):
        self.assertEqual(self.read([127, 128, 0], 127), (127, 3))
        self.assertEqual(self.read([127, 129, 128, 128, 0], 127), (128, 5))

    def test_longer(self):
        for last in (128, 129, 255):
            with self.assertRaises(WrongBlock):
                self.read([127, 128, 128, 128, last, 0], 127)

    def test_beyond_the_end(self):
        for row in ([], [127], [127, 128], [127, 255, 255], [127, 128, 128, 128]):
            with self.assertRaises(WrongBlock):
                self.read(row, 127)

    def test_in_each_part_of_a_block(self):
        for upper, ones in ((0, 15), (16, 15), (64, 63), (128, 127), (32, 31)):
            too_long = [upper + ones, 128, 128, 128, 128, 0]
            self.assertIsNone(pairs(too_long + text(b"") * 2))
            self.assertIsNone(pairs([upper + ones]))
            self.assertIsNone(pairs([upper + ones, 128]))

    def test_long_ones_in_each_part_of_a_block(self):
        self.assertEqual(pairs([32 + 31, 128, 128, 128, 0]), [])
        self.assertEqual(pairs([0, 127, 129, 128, 128, 0] + [97] * 128 + [0]), [(b"a" * 128, b"")])
        table = Table()
        for k in range(70):
            pairs(kept(b"n", b"%d" % k), table)
        self.assertEqual(pairs([255, 129, 128, 128, 0], table), [(b"n", b"3")])
        self.assertEqual(pairs([15, 128 + 113, 128, 128, 0, 0], table), [(b"n", b"")])
        self.assertEqual(pairs([127, 128 + 65, 128, 0, 1, 50], table), [(b"n", b"2")])


class TextTest(unittest.TestCase):
    def test_lengths(self):
        for length in (0, 1, 126, 127, 128, 254, 255, 5000):
            self.assertEqual(pairs(spelled(b"n" * length, b"v" * length)), [(b"n" * length, b"v" * length)])

    def test_any_bytes(self):
        every = bytes(range(256))
        self.assertEqual(pairs(spelled(every, every[::-1])), [(every, every[::-1])])

    def test_beyond_the_end(self):
        for block in (spelled(b"ab", b"cd"), kept(b"ab", b"cd"), [1] + text(b"cd"), [65] + text(b"cd"),
                      spelled(b"", b""), spelled(b"n" * 200, b"v" * 200)):
            for cut in range(1, len(block)):
                self.assertIsNone(pairs(block[:cut]), block[:cut])
        self.assertIsNone(pairs([0, 127, 255, 255, 255, 127, 1]))

    def test_up_to_the_end(self):
        self.assertEqual(pairs([0, 1, 97, 2, 98, 99]), [(b"a", b"bc")])
        self.assertIsNone(pairs([0, 1, 97, 3, 98, 99]))

    def test_a_code_by_bits(self):
        for block in ([0, 129, 97, 1, 98], [0, 1, 97, 129, 98], [64, 128, 0], [64, 0, 128], [1, 128], [65, 129, 7],
                      [0, 1, 97, 255, 0] + [1] * 127):
            self.assertIsNone(pairs(block), block)


class FixedTableTest(unittest.TestCase):
    def test_every_header(self):
        expected = fixed_pairs()
        self.assertEqual(len(expected), 61)
        for k in range(1, 62):
            self.assertEqual(pairs(indexed(k)), [expected[k - 1]])

    def test_every_name(self):
        expected = fixed_pairs()
        for k in range(1, 62):
            wanted = [(expected[k - 1][0], b"x")]
            self.assertEqual(pairs(number(k, 15) + text(b"x")), wanted)
            self.assertEqual(pairs(number(k, 15, 16) + text(b"x")), wanted)
            self.assertEqual(pairs(number(k, 63, 64) + text(b"x")), wanted)

    def test_no_header_0(self):
        self.assertIsNone(pairs([128]))
        self.assertIsNone(pairs([128] + text(b"a") + text(b"b")))
        self.assertIsNone(pairs([128] + indexed(2)))

    def test_none_beyond(self):
        for k in (62, 63, 126, 127, 500, 268435455 + 127):
            self.assertIsNone(pairs(indexed(k)))
            self.assertIsNone(pairs(number(k, 15) + text(b"x")))
            self.assertIsNone(pairs(number(k, 15, 16) + text(b"x")))
            self.assertIsNone(pairs(number(k, 63, 64) + text(b"x")))


class FirstByteTest(unittest.TestCase):
    def test_every_one(self):
        """Each first byte with a text or two behind it that it may need."""
        expected = fixed_pairs()
        for first in range(256):
            wanted = self.wanted(first, expected)
            rest = self.rest(first)
            self.assertEqual(pairs([first] + rest), wanted, first)

    def rest(self, first):
        if first >= 128 or 32 <= first < 64:
            return [0] if first in (255, 63) else []
        if first in (0, 16, 64):
            return text(b"name") + text(b"value")
        return ([0] if first in (15, 31, 127) else []) + text(b"value")

    def wanted(self, first, expected):
        if first >= 128:
            k = first - 128
            return [expected[k - 1]] if 1 <= k <= 61 else None
        if first >= 64:
            k = first - 64
        elif first >= 32:
            return []
        else:
            k = first % 16
        if k == 0:
            return [(b"name", b"value")]
        return [(expected[k - 1][0], b"value")] if k <= 61 else None

    def test_none_below_64_is_put_into_the_table(self):
        for block in (spelled(b"a", b"b"), [16] + text(b"a") + text(b"b"), [4] + text(b"b"), indexed(5)):
            table = Table()
            self.assertEqual(len(pairs(block, table)), 1)
            self.assertIsNone(pairs(indexed(62), table))

    def test_those_from_64_on_are(self):
        table = Table()
        pairs(kept(b"a", b"b"), table)
        pairs([68] + text(b"/x"), table)
        self.assertEqual(pairs(indexed(62) + indexed(63), table), [(b":path", b"/x"), (b"a", b"b")])

    def test_an_empty_block(self):
        self.assertEqual(pairs([]), [])


class OtherTableTest(unittest.TestCase):
    def newest_first(self, table):
        found = []
        while pairs(indexed(62 + len(found)), table) is not None:
            found.extend(pairs(indexed(62 + len(found)), table))
        return found

    def test_the_newest_first(self):
        table = Table()
        block = kept(b"a", b"1") + kept(b"b", b"2") + indexed(62) + indexed(63) + kept(b"c", b"3") + indexed(64)
        self.assertEqual(pairs(block, table),
                         [(b"a", b"1"), (b"b", b"2"), (b"b", b"2"), (b"a", b"1"), (b"c", b"3"), (b"a", b"1")])
        self.assertEqual(self.newest_first(table), [(b"c", b"3"), (b"b", b"2"), (b"a", b"1")])

    def test_names_from_it(self):
        table = Table()
        pairs(kept(b"a", b"1") + kept(b"b", b"2"), table)
        self.assertEqual(pairs(number(63, 15) + text(b"x"), table), [(b"a", b"x")])
        self.assertEqual(pairs(number(62, 15, 16) + text(b"x"), table), [(b"b", b"x")])
        self.assertEqual(pairs(number(63, 63, 64) + text(b"y"), table), [(b"a", b"y")])
        self.assertEqual(self.newest_first(table)[0], (b"a", b"y"))

    def test_the_same_twice(self):
        table = Table()
        pairs(kept(b"a", b"1") * 2, table)
        self.assertEqual(self.newest_first(table), [(b"a", b"1")] * 2)

    def test_it_holds_4096(self):
        table = Table()
        for k in range(64):
            pairs(kept(b"n", [k] * 31), table)
        self.assertEqual(len(self.newest_first(table)), 64)
        pairs(kept(b"", b""), table)
        left = self.newest_first(table)
        self.assertEqual(len(left), 64)
        self.assertEqual((left[0], left[-1]), ((b"", b""), (b"n", bytes([1] * 31))))

    def test_as_many_go_as_must(self):
        table = Table()
        for k in range(64):
            pairs(kept(b"n", [k] * 31), table)
        pairs(kept(b"n", b"x" * (33 + 62)), table)
        self.assertEqual(len(self.newest_first(table)), 63)
        self.assertEqual(self.newest_first(table)[-1], (b"n", bytes([2] * 31)))

    def test_one_that_is_just_as_heavy_as_it_holds(self):
        table = Table()
        pairs(kept(b"a", b"b") + kept(b"n", b"x" * 4063), table)
        self.assertEqual(self.newest_first(table), [(b"n", b"x" * 4063)])

    def test_one_that_is_heavier_leaves_it_empty(self):
        table = Table()
        block = kept(b"a", b"b") + kept(b"n", b"x" * 4064)
        self.assertEqual(pairs(block, table), [(b"a", b"b"), (b"n", b"x" * 4064)])
        self.assertEqual(self.newest_first(table), [])
        pairs(kept(b"c", b"d"), table)
        self.assertEqual(self.newest_first(table), [(b"c", b"d")])

    def test_a_name_of_one_that_goes(self):
        table = Table()
        pairs(kept(b"long" * 500, b""), table)
        self.assertEqual(pairs(number(62, 63, 64) + text(b"y" * 1000), table), [(b"long" * 500, b"y" * 1000)])
        self.assertEqual(self.newest_first(table), [(b"long" * 500, b"y" * 1000)])

    def test_made_smaller(self):
        table = Table()
        pairs(kept(b"a", b"1") + kept(b"b", b"2") + kept(b"c", b"3"), table)
        self.assertEqual(pairs(resized(102), table), [])
        self.assertEqual(len(self.newest_first(table)), 3)
        pairs(resized(101), table)
        self.assertEqual(self.newest_first(table), [(b"c", b"3"), (b"b", b"2")])
        pairs(resized(68) + kept(b"d", b"4"), table)
        self.assertEqual(self.newest_first(table), [(b"d", b"4"), (b"c", b"3")])

    def test_emptied(self):
        table = Table()
        pairs(kept(b"a", b"1"), table)
        pairs([32], table)
        self.assertEqual(self.newest_first(table), [])
        self.assertEqual(pairs(kept(b"a", b"1"), table), [(b"a", b"1")])
        self.assertEqual(self.newest_first(table), [])

    def test_made_larger_again(self):
        table = Table()
        pairs(kept(b"a", b"1"), table)
        self.assertEqual(pairs(resized(0) + resized(4096) + kept(b"b", b"2"), table), [(b"b", b"2")])
        self.assertEqual(self.newest_first(table), [(b"b", b"2")])
        pairs(kept(b"n", b"x" * 4063), table)
        self.assertEqual(self.newest_first(table), [(b"n", b"x" * 4063)])

    def test_4096_at_most(self):
        self.assertEqual(pairs(resized(4096)), [])
        self.assertEqual(resized(4096), [63, 225, 31])
        for weight in (4097, 4128, 8192, 268435486):
            self.assertIsNone(pairs(resized(weight)))

    def test_only_before_the_first_header(self):
        for first in (indexed(2), spelled(b"a", b"b"), kept(b"a", b"b"), [16] + text(b"a") + text(b"b")):
            self.assertIsNone(pairs(first + resized(100)))
            self.assertEqual(len(pairs(resized(100) + first)), 1)
            self.assertIsNone(pairs(resized(100) + first + resized(100)))

    def test_in_every_block_anew(self):
        table = Table()
        pairs(resized(100) + indexed(2), table)
        self.assertEqual(len(pairs(resized(200) + indexed(2), table)), 1)


class OnALineTest(unittest.TestCase):
    def test_a_wrong_block_fails_the_line(self):
        wrong = (
            [128], [190], [255, 0], [15, 47, 0], [127, 0, 0], [0], [0, 1], [0, 1, 97], [0, 1, 97, 1],
            [0, 129, 97, 0], [1, 129, 97], [63, 226, 31], [130, 32], [63], [255, 128, 128, 128, 128, 0],
        )
        for block in wrong:
            outcome = Outcome(request(1) + frame(1, 5, 3, block))
            self.assertEqual((outcome.sent, outcome.told), ([line_fails(9, 1)], [[1, 1, 1, 3, 0]]), block)
            outcome = Outcome(request(1, last=False) + frame(1, 5, 1, block))
            self.assertEqual((outcome.sent, outcome.told), ([line_fails(9, 1)], [[1, 1, 0, 3, 0]]), block)

    def test_wrong_at_the_end(self):
        self.assertEqual(sent(request(1, [128])), [line_fails(9)])

    def test_wrong_for_a_stream_that_is_gone_too(self):
        self.assertEqual(sent(request(5) + frame(1, 5, 3, [128])), [line_fails(9, 5)])

    def test_right_blocks_tell_their_headers(self):
        block = spelled(b"a", b"b") + kept(b"c", b"") + number(58, 15) + text(b"me") + indexed(62)
        self.assertEqual(headers_told(request(1, block))[3:],
                         [(b"a", b"b"), (b"c", b""), (b"user-agent", b"me"), (b"c", b"")])

    def test_the_table_lasts_from_block_to_block(self):
        row = request(1, kept(b"a", b"b")) + request(3, kept(b"c", b"d")) + request(5, indexed(62) + indexed(63))
        self.assertEqual(told(row), [[1, 1, 1, 4, 0], [1, 3, 1, 4, 0], [1, 5, 1, 5, 0]])

    def test_resizing_lasts_from_block_to_block(self):
        row = frame(1, 5, 1, resized(34) + GET) + request(3, kept(b"a", b"b") + kept(b"c", b"d"))
        self.assertEqual(told(row + request(5, indexed(62)))[2:], [[1, 5, 1, 4, 0]])
        self.assertEqual(sent(row + request(5, indexed(63))), [line_fails(9, 3)])

    def test_headers_that_are_not_plain_are_kept_in_the_table(self):
        row = frame(1, 5, 1, kept(b"", b"") + kept(b"A", b"\n"))
        self.assertEqual(sent(row + request(3, indexed(62))), [stream_fails(1, 1), stream_fails(3, 1)])
        self.assertEqual(sent(row + request(3, indexed(63))), [stream_fails(1, 1), stream_fails(3, 1)])


if __name__ == "__main__":
    unittest.main()
