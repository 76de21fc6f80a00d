"""Promise 2: which headers are plain, a request's, trailers."""

import unittest

from tests.helpers import GET, Outcome, frame, indexed, request, spelled, stream_fails

METHOD = spelled(b":method", b"PUT")
SCHEME = spelled(b":scheme", b"x")
PATH = spelled(b":path", b"*")
AUTHORITY = spelled(b":authority", b"me")


class HeaderRulesTest(unittest.TestCase):
    def is_request(self, block):
        outcome = Outcome(frame(1, 5, 1, block))
        if outcome.sent == [stream_fails(1, 1)]:
            self.assertEqual(outcome.told, [])
            return False
        self.assertEqual(outcome.sent, [])
        self.assertEqual([event[:3] for event in outcome.told], [[1, 1, 1]])
        return True

    def are_trailers(self, block):
        outcome = Outcome(request(1, last=False) + frame(1, 5, 1, block))
        if outcome.sent == [stream_fails(1, 1)]:
            self.assertEqual(len(outcome.told), 1)
            return False
        self.assertEqual(outcome.sent, [])
        self.assertEqual([event[:3] for event in outcome.told[1:]], [[2, 1, 1]])
        return True

    def is_plain(self, name, value):
        """Whether it is, behind a request's first headers and among trailers."""
        block = spelled(name, value)
        found = self.is_request(GET + block)
        self.assertEqual(self.is_request(GET + spelled(b"a", b"b") + block + spelled(b"c", b"d")), found)
        self.assertEqual(self.are_trailers(block), found)
        self.assertEqual(self.are_trailers(spelled(b"a", b"b") + block + spelled(b"c", b"d")), found)
        return found


class PlainTest(HeaderRulesTest):
    def test_names_of_one_byte(self):
        for byte in range(256):
            right = 33 <= byte <= 126 and byte != ord(":") and not 65 <= byte <= 90
            self.assertEqual(self.is_plain([byte], b"x"), right, byte)

    def test_bytes_within_names(self):
        for byte in (0, 9, 32, 33, 58, 64, 65, 77, 90, 91, 96, 126, 127, 128, 255):
            right = 33 <= byte <= 126 and byte != ord(":") and not 65 <= byte <= 90
            self.assertEqual(self.is_plain([97, byte, 98], b""), right, byte)
            self.assertEqual(self.is_plain([97, 98, byte], b""), right, byte)

    def test_no_name(self):
        self.assertFalse(self.is_plain(b"", b""))
        self.assertFalse(self.is_plain(b"", b"x"))

    def test_values_of_one_byte(self):
        for byte in range(256):
            self.assertEqual(self.is_plain(b"a", [byte]), byte not in (0, 10, 13, 32, 9), byte)

    def test_bytes_within_values(self):
        for byte in (0, 1, 8, 9, 10, 11, 12, 13, 14, 31, 32, 127, 128, 255):
            self.assertEqual(self.is_plain(b"a", [97, byte, 98]), byte not in (0, 10, 13), byte)
            self.assertEqual(self.is_plain(b"a", [byte, 98]), byte not in (0, 10, 13, 32, 9), byte)
            self.assertEqual(self.is_plain(b"a", [97, byte]), byte not in (0, 10, 13, 32, 9), byte)

    def test_no_value(self):
        self.assertTrue(self.is_plain(b"a", b""))

    def test_names_that_are_barred(self):
        for name in (b"connection", b"keep-alive", b"proxy-connection", b"transfer-encoding", b"upgrade"):
            for value in (b"", b"x", b"trailers"):
                self.assertFalse(self.is_plain(name, value), name)
            for other in (name + b"s", name[:-1], b"x" + name, name[1:]):
                self.assertTrue(self.is_plain(other, b"x"), other)

    def test_a_barred_name_of_the_fixed_table(self):
        self.assertFalse(self.is_request(GET + indexed(57)))

    def test_te(self):
        self.assertTrue(self.is_plain(b"te", b"trailers"))
        for value in (b"", b"trailer", b"trailers2", b"Trailers", b"TRAILERS", b"trailers, gzip", b"gzip"):
            self.assertFalse(self.is_plain(b"te", value), value)
        for name in (b"t", b"tee", b"tf"):
            self.assertTrue(self.is_plain(name, b"gzip"), name)

    def test_the_same_more_than_once(self):
        self.assertTrue(self.is_request(GET + spelled(b"a", b"b") * 3))
        self.assertTrue(self.are_trailers(spelled(b"a", b"b") * 3))


class RequestTest(HeaderRulesTest):
    def test_in_any_order(self):
        for block in (METHOD + SCHEME + PATH, PATH + METHOD + SCHEME, SCHEME + PATH + METHOD):
            self.assertTrue(self.is_request(block))
            self.assertTrue(self.is_request(block + AUTHORITY))
            self.assertTrue(self.is_request(AUTHORITY + block))

    def test_one_is_missing(self):
        for block in ([], METHOD + SCHEME, METHOD + PATH, SCHEME + PATH, METHOD, AUTHORITY, AUTHORITY + METHOD + PATH,
                      spelled(b"a", b"b"), METHOD + SCHEME + AUTHORITY, SCHEME + PATH + AUTHORITY):
            self.assertFalse(self.is_request(block), block)
            self.assertFalse(self.is_request(block + spelled(b"a", b"b")), block)

    def test_one_is_there_twice(self):
        whole = METHOD + SCHEME + PATH
        for more in (METHOD, SCHEME, PATH, indexed(2), indexed(6), indexed(4), AUTHORITY + AUTHORITY):
            self.assertFalse(self.is_request(whole + more), more)
        # Twice one and not another.
        self.assertFalse(self.is_request(METHOD + METHOD + PATH))
        self.assertFalse(self.is_request(METHOD + SCHEME + PATH + AUTHORITY + METHOD))

    def test_others_with_a_colon(self):
        for name in (b":", b":status", b":protocol", b":Path", b":paths", b":pat", b":x", b"::path", b":host"):
            self.assertFalse(self.is_request(GET + spelled(name, b"x")), name)
            self.assertFalse(self.is_request(spelled(name, b"x") + GET), name)

    def test_an_other_in_the_place_of_one(self):
        self.assertFalse(self.is_request(METHOD + SCHEME + spelled(b":status", b"200")))
        self.assertFalse(self.is_request(METHOD + SCHEME + PATH + spelled(b":status", b"200") + AUTHORITY))

    def test_behind_a_plain_one(self):
        plain = spelled(b"a", b"b")
        for block in (METHOD + SCHEME + plain + PATH, plain + METHOD + SCHEME + PATH,
                      METHOD + SCHEME + PATH + plain + AUTHORITY, METHOD + SCHEME + PATH + plain + PATH):
            self.assertFalse(self.is_request(block))

    def test_an_empty_path(self):
        self.assertFalse(self.is_request(METHOD + SCHEME + spelled(b":path", b"")))
        self.assertTrue(self.is_request(METHOD + SCHEME + spelled(b":path", b"x")))

    def test_other_empty_values(self):
        self.assertTrue(self.is_request(spelled(b":method", b"") + SCHEME + PATH))
        self.assertTrue(self.is_request(METHOD + spelled(b":scheme", b"") + PATH))
        self.assertTrue(self.is_request(METHOD + SCHEME + PATH + indexed(1)))

    def test_values_as_before(self):
        right = (b"x y", b"\xff", b"x\ty", b"\x7f", b"\x01")
        wrong = (b" x", b"x ", b"\tx", b"x\t", b" ", b"\t", b"x\0y", b"x\ny", b"x\ry", b"\0", b"\n", b"\r")
        for name in (b":method", b":scheme", b":path", b":authority"):
            blocks = {b":method": METHOD, b":scheme": SCHEME, b":path": PATH, b":authority": AUTHORITY}
            blocks.pop(name)
            rest = [byte for block in blocks.values() for byte in block]
            for value in right:
                self.assertTrue(self.is_request(spelled(name, value) + rest), (name, value))
            for value in wrong:
                self.assertFalse(self.is_request(spelled(name, value) + rest), (name, value))
                self.assertFalse(self.is_request(rest + spelled(name, value)), (name, value))


class TrailersTest(HeaderRulesTest):
    def test_none(self):
        self.assertTrue(self.are_trailers([]))

    def test_with_a_colon(self):
        for block in (GET, METHOD, PATH, AUTHORITY, indexed(8), spelled(b":x", b"y")):
            self.assertFalse(self.are_trailers(block))
            self.assertFalse(self.are_trailers(block + spelled(b"a", b"b")))
            self.assertFalse(self.are_trailers(spelled(b"a", b"b") + block))


if __name__ == "__main__":
    unittest.main()
