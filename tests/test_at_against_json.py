"""at beside an answer that Python's own json gives: all short rows of some chosen signs, and small changes to a longer one."""
import itertools
import unittest

from asking import ask_at, expected_whole

LONGER = b'[-12 ,{"\\u00e9\\ud83d\\ude00":null,"\xc3\xa9\\n\xe2\x82\xac" :[true] ,"":"\xf0\x9f\x98\x80"},0]'
NESTED = b"[" * 30 + b'{"a":[],"b":1}' + b"]" * 30


def every_change(t):
    for place in range(len(t) + 1):
        yield t[:place] + t[place + 1:]
        for number in range(256):
            yield t[:place] + bytes([number]) + t[place + 1:]
            yield t[:place] + bytes([number]) + t[place:]


class AgainstJson(unittest.TestCase):
    def check(self, documents):
        seen = {True: 0, False: 0}
        for t in documents:
            wanted = expected_whole(t)
            seen[wanted == -3] += 1
            found = ask_at(t)
            if found != wanted:
                self.fail(f"{t!r}: answered {found!r}, not {wanted!r}")
        self.assertGreater(min(seen.values()), 0, "both kinds are to be met")

    def test_short_documents(self):
        for size in range(1, 5):
            self.check(bytes(row) for row in itertools.product(b'[]{},:"\\0-1n \n', repeat=size))

    def test_short_documents_in_a_member(self):
        self.check(b'{"a":' + bytes(row) for row in itertools.product(b'[]{},:"a 1', repeat=4))

    def test_short_texts(self):
        signs = b'"\\u/a\x00\x1f\x20\x7f\x80\x8f\x90\x9f\xa0\xbf\xc0\xc1\xc2\xe0\xe1\xed\xee\xf0'
        for size in (1, 2, 3):
            self.check(b'"' + bytes(row) + b'"' for row in itertools.product(signs, repeat=size))

    def test_every_pair_of_first_bytes(self):
        for tail in (b"", b"\x80", b"\x80\x80"):
            self.check(b'"' + bytes(pair) + tail + b'"' for pair in itertools.product(range(256), repeat=2))

    def test_every_change_to_a_longer_one(self):
        self.assertNotEqual(expected_whole(LONGER), -3)
        self.check(every_change(LONGER))

    def test_deletions_and_doublings_in_a_nested_one(self):
        self.assertNotEqual(expected_whole(NESTED), -3)
        self.check([NESTED] + [NESTED[:a] + NESTED[b:] for a in range(len(NESTED)) for b in range(a + 1, len(NESTED))])
        self.check([NESTED, b"[" + NESTED + b"]", b'{"":' + NESTED + b"}"])


if __name__ == "__main__":
    unittest.main()
