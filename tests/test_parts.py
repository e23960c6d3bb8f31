"""Parts of the calls that their own answers can't show.

What is too large for at, which no document of 65536 bytes comes to; UTF-8 outside of quotes, where little may stand at
all; that size and depth, which values carry with them, are those of what is written; that no value is changed.
"""
import itertools
import json
import unittest
from unittest import mock

from asking import depth, write
from patchwords import documents
from patchwords.changes import all_done
from patchwords.characters import is_utf8
from patchwords.merging import merged
from patchwords.operations import read_operations
from patchwords.reading import read_document
from patchwords.refusals import TooLarge
from patchwords.values import list_value, members_value, plain_value, text_value
from patchwords.writing import written
from patching import add, copy, move, remove, replace


def value_of(plain):
    """The program's own value of one of Python's."""
    if isinstance(plain, dict):
        return members_value({tuple(name.encode()): value_of(plain[name]) for name in plain})
    if isinstance(plain, list):
        return list_value([value_of(item) for item in plain])
    if isinstance(plain, str):
        return text_value(tuple(plain.encode()))
    return plain_value(plain)


def nested(deep, innermost):
    value = innermost
    for level in range(deep):
        value = [value] if level % 2 else {"a": value}
    return value


class TooLargeToWrite(unittest.TestCase):
    def check_size(self, plain, size):
        self.assertEqual(len(written(value_of(plain))), size)

    def check_too_large(self, plain):
        with self.assertRaises(TooLarge):
            written(value_of(plain))

    def test_bytes(self):
        self.check_size("a" * 262142, 262144)
        self.check_too_large("a" * 262143)

    def test_bytes_count_as_written(self):
        self.check_size("\n" * 43690, 262142)
        self.check_too_large("\n" * 43691)

    def test_bytes_in_all(self):
        self.check_size(["a" * 131068, "a" * 131069], 262144)
        self.check_too_large(["a" * 131069, "a" * 131069])

    def test_depth(self):
        for innermost in ([], {}):
            self.check_size(nested(63, innermost), 32 * 6 + 31 * 2 + 2)
            self.check_too_large(nested(64, innermost))
        self.check_size(nested(64, 1), 32 * 6 + 32 * 2 + 1)
        self.check_too_large(nested(65, 1))

    def test_at_answers_its_number(self):
        with mock.patch.object(documents, "written", side_effect=TooLarge):
            self.assertEqual(documents.at([49], []), [-7])

    def test_at_answers_it_behind_all_others(self):
        with mock.patch.object(documents, "written", side_effect=TooLarge):
            for t, p, wanted in ((b"[", b"", -3), (b"[", b"a", -3), (b"[]", b"a", -4), (b"[]", b"/0", -5), (b"[1]", b"/0", -7)):
                self.assertEqual(documents.at(list(t), list(p)), [wanted])


class SizeAndDepth(unittest.TestCase):
    DOCUMENT = {"a": [1, {"b": [[]]}, [], "\n\u00e9"], "": {}, "\"~": {"c": [{"d": None}], "e": -1}}
    ROWS = [add("/a/1/b/0/0", [{}]), remove("/a/1/b/0"), add("/", [[[[[]]]]]), replace("//0/0", 1), replace("/", True), remove("/a/0"),
            copy("", "/a/1/-"), move("/a/0/b", "/a/1/0"), add("/\n", "\t"), move("/\n", "/\"~0/c/0/d"), remove("/\"~0/c/0/d"),
            remove("/\"~0/c/0"), remove("/\"~0/c"), remove("/\"~0/e"), move("/a", "/b"), replace("/b/1", {"": [[]]}), remove("/b/1/"),
            copy("/b", "/b/1/x"), remove("/b/1/x"), remove("/b"), remove("/"), remove("/\"~0"), add("/-", 1), move("/-", "")]

    def check_measures(self, value):
        found = bytes(written(value))
        self.assertEqual(value.size, len(found), found)
        self.assertEqual(value.depth, depth(json.loads(found)), found)
        content = value.content
        for inner in content.values() if isinstance(content, dict) else content if isinstance(content, list) else ():
            self.check_measures(inner)

    def test_as_they_are_read(self):
        for plain in (None, True, False, 0, -10, "", "\n\"\\", "\u20ac", [], {}, [1], [1, 2], {"": 1}, {"\n": 1, "b": []}, self.DOCUMENT):
            self.check_measures(read_document(list(write(plain))))

    def test_behind_each_operation(self):
        value = read_document(list(write(self.DOCUMENT)))
        for row in self.ROWS:
            before = written(value)
            changed = all_done(value, read_operations(list(write([row]))))
            self.check_measures(changed)
            self.assertEqual(written(value), before, "a value was changed")
            value = changed
        self.assertEqual(bytes(written(value)), b"1")

    def test_merged(self):
        others = [{}, {"a": None}, {"a": {"b": None}}, {"a": [[[]]]}, {"": {"x": {"y": {"z": []}}}}, {"\"~": {"c": None}, "\n": "\t"},
                  {"\"~": {"c": {"d": None}, "e": None, "f": {"g": None}}}, {"a": 1, "\"~": None, "new": {"": [{}]}}, [], 1, "\n"]
        value = read_document(list(write(self.DOCUMENT)))
        for plain in others + [self.DOCUMENT]:
            other = read_document(list(write(plain)))
            before = written(value), written(other)
            self.check_measures(merged(value, other))
            self.check_measures(merged(other, value))
            self.assertEqual((written(value), written(other)), before, "a value was changed")


class Utf8(unittest.TestCase):
    def check(self, found):
        try:
            found.decode("utf-8")
            wanted = True
        except UnicodeDecodeError:
            wanted = False
        self.assertIs(is_utf8(list(found)), wanted, found)

    def test_nothing(self):
        self.check(b"")

    def test_every_pair_of_bytes(self):
        for pair in itertools.product(range(256), repeat=2):
            for tail in (b"", b"\x80", b"\xbf\xbf"):
                self.check(bytes(pair) + tail)

    def test_edges_of_every_byte(self):
        for last in (0x00, 0x7F, 0x80, 0xBF, 0xC0, 0xFF):
            for first in (b"\xc2", b"\xe2\x82", b"\xe2", b"\xf0\x9f\x98", b"\xf0\x9f"):
                self.check(first + bytes([last]))
                self.check(first + bytes([last]) + b"\x80")


if __name__ == "__main__":
    unittest.main()
