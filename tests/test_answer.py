"""Promise 7: answer, and what it sends."""

import unittest

from manyonline.headers import Header
from manyonline.packing import pack
from manyonline.table import Table
from manyonline.unpacking import unpack
from tests.appendix import fixed_pairs
from tests.helpers import (
    BEGIN, EVENT, LARGEST, PACKED_STATUS, START, STATUS, after, answer, data, feed, four, frame, handed, request,
    reset, room, run, send, spelled, split_frames, stream_fails, take, told,
)

NOT_0 = (1, 2, -1, 256, LARGEST, -LARGEST - 1)


def block_sent(*pairs):
    """The block of an answer with these behind STATUS; what stands ahead of them is left out."""
    answered, frames = after(request(1), answer(1, (STATUS,) + pairs))
    assert answered == [[0]], answered
    assert [sent[:3] for sent in frames] == [(1, 4, 1)]
    assert frames[0][3][:2] == [32] + PACKED_STATUS
    return frames[0][3][2:]


class PackingTest(unittest.TestCase):
    def test_byte_by_byte(self):
        parts = run(BEGIN, feed(START + request(1)), take(), answer(1, ((b":status", b"404"), (b"a", b"bc"))), take())
        self.assertEqual(parts[3:], [
            [0], [17, 0, 0, 8, 1, 4, 0, 0, 0, 1, 32, 141, 0, 1, 97, 2, 98, 99],
        ])

    def test_each_status_of_the_fixed_table(self):
        for k, value in enumerate((b"200", b"204", b"206", b"304", b"400", b"404", b"500"), start=8):
            answered, frames = after(request(1), answer(1, ((b":status", value),)))
            self.assertEqual((answered, frames), ([[0]], [(1, 4, 1, [32, 128 + k])]))

    def test_other_statuses(self):
        for value in (b"201", b"000", b"999", b"100", b"205", b"020"):
            answered, frames = after(request(1), answer(1, ((b":status", value),)))
            self.assertEqual((answered, frames), ([[0]], [(1, 4, 1, [32, 8, 3] + list(value))]))

    def test_each_header_of_the_fixed_table(self):
        plain = list(enumerate(fixed_pairs(), start=1))[14:]
        self.assertEqual(plain[0], (15, (b"accept-charset", b"")))
        for k, (name, value) in plain:
            if name != b"transfer-encoding":
                self.assertEqual(block_sent((name, value)), [128 + k], name)

    def test_each_name_of_the_fixed_table(self):
        for k, (name, value) in list(enumerate(fixed_pairs(), start=1))[14:]:
            if name != b"transfer-encoding":
                self.assertEqual(block_sent((name, b"x")), [15, k - 15, 1, 120], name)

    def test_what_no_answer_can_have_is_packed_alike(self):
        fixed_ones = Table().fixed_ones
        for k, (name, value) in enumerate(fixed_pairs(), start=1):
            self.assertEqual(pack([Header(list(name), list(value))], fixed_ones), [128 + k])
        for k, name in ((1, b":authority"), (2, b":method"), (4, b":path"), (6, b":scheme"), (8, b":status")):
            self.assertEqual(pack([Header(list(name), [42])], fixed_ones), [k, 1, 42])
        self.assertEqual(pack([], fixed_ones), [])

    def test_a_value_that_is_another_than_in_the_fixed_table(self):
        self.assertEqual(block_sent((b"accept-encoding", b"gzip, deflate")), [144])
        self.assertEqual(block_sent((b"accept-encoding", b"")), [15, 1, 0])
        self.assertEqual(block_sent((b"accept-encoding", b"gzip, deflat")), [15, 1, 12] + list(b"gzip, deflat"))
        self.assertEqual(block_sent((b"accept", b"")), [147])
        self.assertEqual(block_sent((b"accept", b"*")), [15, 4, 1, 42])

    def test_neither_name_nor_value(self):
        self.assertEqual(block_sent((b"x", b"")), [0, 1, 120, 0])
        self.assertEqual(block_sent((b"accep", b"")), [0, 5] + list(b"accep") + [0])
        self.assertEqual(block_sent((b"accept-", b"gzip, deflate")),
                         [0, 7] + list(b"accept-") + [13] + list(b"gzip, deflate"))
        self.assertEqual(block_sent((b"te", b"trailers")), [0, 2, 116, 101, 8] + list(b"trailers"))

    def test_one_behind_another(self):
        pairs = ((b"x", b"y"), (b"date", b""), (b"via", b"z"), (b"x", b"y"), (b"date", b""))
        self.assertEqual(block_sent(*pairs),
                         [0, 1, 120, 1, 121] + [161] + [15, 45, 1, 122] + [0, 1, 120, 1, 121] + [161])

    def test_bytes_of_any_kind_in_values(self):
        value = [byte for byte in range(256) if byte not in (0, 10, 13)]
        self.assertEqual(block_sent((b"x", value)), [0, 1, 120, 127, 126] + value)

    def test_names_of_any_bytes_that_they_may_have(self):
        name = [byte for byte in range(33, 127) if byte != 58 and not 65 <= byte <= 90]
        self.assertEqual(block_sent((name, b"")), [0, len(name)] + name + [0])

    # A length, and how it is written in seven bits.
    LENGTHS = (
        (0, [0]), (1, [1]), (125, [125]), (126, [126]), (127, [127, 0]), (128, [127, 1]), (129, [127, 2]),
        (253, [127, 126]), (254, [127, 127]), (255, [127, 128, 1]), (256, [127, 129, 1]), (383, [127, 128, 2]),
        (1337, [127, 186, 9]), (8000, [127, 193, 61]), (16000, [127, 129, 124]),
    )

    def test_how_long_values_are(self):
        for length, written in self.LENGTHS:
            value = [98] * length
            self.assertEqual(block_sent((b"x", value)), [0, 1, 120] + written + value, length)
        for length, written in self.LENGTHS[1:]:
            value = [98] * length
            self.assertEqual(block_sent((b"etag", value)), [15, 19] + written + value, length)

    def test_how_long_names_are(self):
        for length, written in self.LENGTHS[1:]:
            name = [98] * length
            self.assertEqual(block_sent((name, b"v")), [0] + written + name + [1, 118], length)

    def test_it_unpacks_to_what_was_handed_over(self):
        pairs = tuple((name, b"v" * k) for k, (name, value) in enumerate(fixed_pairs()[14:56]))
        headers = unpack(block_sent(*pairs), Table())
        self.assertEqual([(bytes(header.name), bytes(header.value)) for header in headers], list(pairs))

    def test_nothing_is_put_into_a_table(self):
        answered, frames = after(request(1) + request(3), answer(1, (STATUS, (b"x", b"y"))),
                                 answer(3, (STATUS, (b"x", b"y"))))
        self.assertEqual([sent[3] for sent in frames],
                         [[32, 136, 0, 1, 120, 1, 121], [136, 0, 1, 120, 1, 121]])

    def test_the_tables_of_what_comes_and_goes_are_apart(self):
        # What came is in the other table; what goes is packed by the fixed one alone, and empties nothing.
        asked = request(1, [64, 1, 120, 1, 121])
        parts = run(BEGIN, feed(START + asked), take(), answer(1, (STATUS, (b"x", b"y"))), take(),
                    feed(request(3, [190])), EVENT, EVENT, [4, 3, 9])
        self.assertEqual(parts[4][10:], [32, 136, 0, 1, 120, 1, 121])
        self.assertEqual(parts[6:], [[1, 1, 1, 4, 0], [1, 3, 1, 4, 0], [2, 1, 120, 121]])


class Byte32Test(unittest.TestCase):
    ASKED = request(1) + request(3) + request(5)

    def blocks(self, *calls):
        answered, frames = after(self.ASKED, *calls)
        return [sent[3] for sent in frames if sent[0] == 1]

    def test_once_in_a_line(self):
        self.assertEqual(self.blocks(*[answer(stream, (STATUS,)) for stream in (3, 1, 5)]), [[32, 136], [136], [136]])

    def test_what_is_taken_does_not_matter(self):
        parts = run(BEGIN, feed(START + self.ASKED), take(), answer(1, (STATUS,), 1), take(), answer(3, (STATUS,)),
                    take())
        self.assertEqual([parts[4][10:], parts[6][10:]], [[32, 136], [136]])

    def test_a_refusal_sends_no_block(self):
        self.assertEqual(self.blocks(answer(7, (STATUS,)), answer(1, []), answer(1, (STATUS, STATUS)),
                                     answer(1, (STATUS,)), answer(1, (STATUS,)), answer(3, (STATUS,))),
                         [[32, 136], [136]])

    def test_anew_behind_begin(self):
        parts = run(BEGIN, feed(START + self.ASKED), answer(1, (STATUS,)), BEGIN, feed(START + self.ASKED), take(),
                    answer(1, (STATUS,)), answer(3, (STATUS,)), take())
        self.assertEqual([sent[3] for sent in split_frames(parts[-1][1:])], [[32, 136], [136]])


class FramesTest(unittest.TestCase):
    def pairs_of(self, length):
        """Headers whose block is so long, with the byte 32 ahead of them."""
        pairs = [STATUS] + [(b"a" * 255, b"b" * 255)] * 31
        return tuple(pairs) + ((b"c", b"d" * (length - 2 - 31 * 517 - 6)),)

    def block_of(self, length):
        block = [32, 136] + ([0, 127, 128, 1] + [97] * 255 + [127, 128, 1] + [98] * 255) * 31
        rest = length - len(block) - 6
        return block + [0, 1, 99, 127, 128 + (rest - 127) % 128, (rest - 127) // 128] + [100] * rest

    def test_16384_bytes(self):
        block = self.block_of(16384)
        self.assertEqual(len(block), 16384)
        for last, flags in ((0, 4), (1, 5)):
            answered, frames = after(request(1), answer(1, self.pairs_of(16384), last))
            self.assertEqual((answered, frames), ([[0]], [(1, flags, 1, block)]))

    def test_more(self):
        for length in (16385, 16386, 16400):
            block = self.block_of(length)
            self.assertEqual(len(block), length)
            for last, flags in ((0, 0), (1, 1)):
                answered, frames = after(request(1), answer(1, self.pairs_of(length), last))
                self.assertEqual(answered, [[0]])
                self.assertEqual(frames, [(1, flags, 1, block[:16384]), (9, 4, 1, block[16384:])])

    def test_the_byte_32_counts(self):
        first = answer(1, (STATUS,))
        for length, count in ((16384, 1), (16385, 1), (16386, 2)):
            answered, frames = after(request(1) + request(3), first, answer(3, self.pairs_of(length)))
            self.assertEqual(answered, [[0], [0]])
            self.assertEqual([sent[:2] for sent in frames[1:]], [(1, 4)] if count == 1 else [(1, 0), (9, 4)])
            self.assertEqual([byte for sent in frames[1:] for byte in sent[3]], self.block_of(length)[1:])

    def test_as_much_as_can_be_handed_over(self):
        pairs = (STATUS, (b"x", b"y" * (16384 - 14 - 5)))
        self.assertEqual(len(handed(*pairs)), 16384)
        answered, frames = after(request(1), answer(1, pairs))
        self.assertEqual(answered, [[0]])
        self.assertEqual(frames, [(1, 4, 1, [32, 136, 0, 1, 120, 127, 238, 126] + [121] * 16365)])

    def test_as_many_headers_as_can_be_handed_over(self):
        pairs = (STATUS,) + ((b"x", b""),) * 3274
        self.assertEqual(len(handed(*pairs)), 16384)
        answered, frames = after(request(1), answer(1, pairs))
        self.assertEqual((answered, frames), ([[0]], [(1, 4, 1, [32, 136] + [0, 1, 120, 0] * 3274)]))

    def test_more_to_come_ends_behind_the_last_frame(self):
        block = self.block_of(16385)
        answered, frames = after(request(1, last=False), answer(1, self.pairs_of(16385), 1))
        self.assertEqual(frames, [(1, 1, 1, block[:16384]), (9, 4, 1, block[16384:]), stream_fails(1, 0)])

    def test_behind_what_is_still_to_be_sent(self):
        parts = run(BEGIN, feed(START + request(1)), answer(1, (STATUS,)), feed(frame(6, 0, 0, [1] * 8)), take())
        self.assertEqual(parts[-1][1:], frame(4, 0, 0, [0, 3, 0, 0, 0, 32]) + frame(4, 1, 0) +
                         frame(1, 4, 1, [32, 136]) + frame(6, 1, 0, [1] * 8))

    def test_the_stream_that_is_answered(self):
        for stream in (1, 3, 257, 65537, LARGEST):
            answered, frames = after(request(stream), answer(stream, (STATUS,)))
            self.assertEqual((answered, frames), ([[0]], [(1, 4, stream, [32, 136])]))

    def test_windows_do_not_matter_and_do_not_change(self):
        no_room = frame(4, 0, 0, [0, 4, 0, 0, 0, 0])
        answered, frames = after(no_room + request(1), answer(1, (STATUS, (b"x", b"y"))), send(1, [7]),
                                 feed(frame(8, 0, 1, four(1))), send(1, [7, 8]))
        self.assertEqual(answered, [[0], [0], [13], [1]])
        self.assertEqual(frames, [(1, 4, 1, [32, 136, 0, 1, 120, 1, 121]), (0, 0, 1, [7])])


class LastTest(unittest.TestCase):
    def test_not_the_last(self):
        for last in (False, True):
            answered, frames = after(request(1, last=last), answer(1, (STATUS,), 0))
            self.assertEqual((answered, frames), ([[0]], [(1, 4, 1, [32, 136])]))

    def test_the_last_with_no_more_to_come(self):
        for last in NOT_0:
            answered, frames = after(request(1), answer(1, (STATUS,), last))
            self.assertEqual((answered, frames), ([[0]], [(1, 5, 1, [32, 136])]))

    def test_the_last_with_more_to_come(self):
        for last in NOT_0:
            answered, frames = after(request(1, last=False), answer(1, (STATUS,), last))
            self.assertEqual((answered, frames), ([[0]], [(1, 5, 1, [32, 136]), stream_fails(1, 0)]))

    def test_no_more_to_come_behind_data_and_trailers(self):
        for end in (frame(0, 1, 1, [5]), frame(0, 1, 1), frame(1, 5, 1)):
            answered, frames = after(request(1, last=False) + end, answer(1, (STATUS,), 1))
            self.assertEqual(frames, [(1, 5, 1, [32, 136])])

    def test_more_to_come_behind_data(self):
        answered, frames = after(request(1, last=False) + frame(0, 0, 1, [5]), answer(1, (STATUS,), 1))
        self.assertEqual(frames, [(1, 5, 1, [32, 136]), stream_fails(1, 0)])

    def test_trailers_that_are_not_whole_may_still_come(self):
        row = request(1, last=False) + frame(1, 1, 1, [0, 1])
        answered, frames = after(row, answer(1, (STATUS,), 1), feed(frame(9, 4, 1, [97, 0])), EVENT, EVENT)
        self.assertEqual(answered[2:], [[1, 1, 0, 3, 0], [0] * 5])
        self.assertEqual(frames, [(1, 5, 1, [32, 136]), stream_fails(1, 0), stream_fails(1, 5)])

    def test_it_is_gone_for_the_calls(self):
        for last in (False, True):
            answered, frames = after(request(1, last=last), answer(1, (STATUS,), 1), answer(1, (STATUS,)),
                                     send(1, [1]), send(1, [], 1), reset(1, 0))
            self.assertEqual(answered, [[0], [-1], [-1], [-1], [-1]])
            self.assertEqual(len(frames), 1 if last else 2)

    def test_it_is_gone_for_what_comes(self):
        for last in (False, True):
            came = frame(0, 0, 1, [1, 2]) + frame(8, 0, 1, four(0)) + frame(3, 0, 1, four(1)) + frame(1, 5, 1)
            answered, frames = after(request(1, last=last), answer(1, (STATUS,), 1), feed(came), EVENT, EVENT)
            self.assertEqual(answered[1:], [[len(came)], [1, 1, 1 if last else 0, 3, 0], [0] * 5])
            self.assertEqual(frames[-3:], [room(0, 2), stream_fails(1, 5), stream_fails(1, 5)])

    def test_it_is_not_gone_before_it_ends(self):
        came = frame(0, 0, 1, [1, 2]) + frame(1, 5, 1, spelled(b"a", b"b"))
        answered, frames = after(request(1, last=False), answer(1, (STATUS,)), feed(came), EVENT, EVENT, data(), EVENT)
        self.assertEqual(answered[2:], [[1, 1, 0, 3, 0], [3, 1, 0, 2, 0], [2, 1, 2], [2, 1, 1, 1, 0]])
        self.assertEqual(frames, [(1, 4, 1, [32, 136]), room(0, 2), room(1, 2)])

    def test_what_was_to_be_told_of_it_is_told(self):
        row = request(1, last=False) + frame(0, 0, 1, [1, 2])
        answered, frames = after(row, answer(1, (STATUS,), 1), EVENT, EVENT, data())
        self.assertEqual(answered[1:], [[1, 1, 0, 3, 0], [3, 1, 0, 2, 0], [2, 1, 2]])

    def test_there_is_room_for_another_stream(self):
        asked = [byte for stream in range(1, 64, 2) for byte in request(stream)]
        for last, failing in ((0, [stream_fails(65, 7)]), (1, [])):
            answered, frames = after(asked, answer(9, (STATUS,), last), feed(request(65)))
            self.assertEqual(frames[1:], failing)
        self.assertEqual(len(told(asked)), 32)

    def test_other_streams_stay(self):
        answered, frames = after(request(1) + request(3), answer(1, (STATUS,), 1), answer(3, (STATUS,), 1))
        self.assertEqual(answered, [[0], [0]])
        self.assertEqual(frames, [(1, 5, 1, [32, 136]), (1, 5, 3, [136])])

    def test_the_highest_stream_stays(self):
        answered, frames = after(request(1) + request(7), answer(7, (STATUS,), 1), feed(request(5)), feed(request(9)))
        self.assertEqual(frames[1:], [stream_fails(5, 5)])

    def test_before_the_request_is_told(self):
        answered, frames = after(request(1), answer(1, (STATUS,), 1), EVENT, EVENT)
        self.assertEqual(answered, [[0], [1, 1, 1, 3, 0], [0] * 5])


if __name__ == "__main__":
    unittest.main()
