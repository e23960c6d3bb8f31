"""Parts of at that its own answers can't show.

What is too large, which no document of 65536 bytes comes to; UTF-8 outside of quotes, where little may stand at all.
"""
import itertools
import unittest
from unittest import mock

from patchwords import documents
from patchwords.characters import is_utf8
from patchwords.refusals import TooLarge
from patchwords.writing import written


def nested(deep, innermost):
    value = innermost
    for level in range(deep):
        value = [value] if level % 2 else {(97,): value}
    return value


class TooLargeToWrite(unittest.TestCase):
    def test_bytes(self):
        self.assertEqual(len(written((97,) * 262142)), 262144)
        with self.assertRaises(TooLarge):
            written((97,) * 262143)

    def test_bytes_count_as_written(self):
        self.assertEqual(len(written((10,) * 43690)), 262142)
        with self.assertRaises(TooLarge):
            written((10,) * 43691)

    def test_bytes_in_all(self):
        self.assertEqual(len(written([(97,) * 131068, (97,) * 131069])), 262144)
        with self.assertRaises(TooLarge):
            written([(97,) * 131069, (97,) * 131069])

    def test_depth(self):
        for innermost in ([], {}):
            self.assertEqual(len(written(nested(63, innermost))), 32 * 6 + 31 * 2 + 2)
            with self.assertRaises(TooLarge):
                written(nested(64, innermost))
        self.assertEqual(len(written(nested(64, 1))), 32 * 6 + 32 * 2 + 1)
        with self.assertRaises(TooLarge):
            written(nested(65, 1))

    def test_at_answers_its_number(self):
        with mock.patch.object(documents, "written", side_effect=TooLarge):
            self.assertEqual(documents.at([49], []), [-7])


class Utf8(unittest.TestCase):
    def check(self, found):
        try:
            found.decode("utf-8")
            wanted = True
        except UnicodeDecodeError:
            wanted = False
        self.assertIs(is_utf8(list(found)), wanted, found)

    def test_nothing(self):
        self.check(b"")

    def test_every_pair_of_bytes(self):
        for pair in itertools.product(range(256), repeat=2):
            for tail in (b"", b"\x80", b"\xbf\xbf"):
                self.check(bytes(pair) + tail)

    def test_edges_of_every_byte(self):
        for last in (0x00, 0x7F, 0x80, 0xBF, 0xC0, 0xFF):
            for first in (b"\xc2", b"\xe2\x82", b"\xe2", b"\xf0\x9f\x98", b"\xf0\x9f"):
                self.check(first + bytes([last]))
                self.check(first + bytes([last]) + b"\x80")


if __name__ == "__main__":
    unittest.main()
