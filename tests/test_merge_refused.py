"""Promise 3, merge: what isn't a document, which refusal is told first, and how deep t and p may be nested."""
import unittest

from asking import NOT_DOCUMENT, NOT_SECOND, TOO_LARGE, nested
from merging import Merged
from two_documents import TwoDocuments


class NotDocuments(TwoDocuments, Merged):
    # Though nothing of t is in the answer, it's to be a document.
    def test_t_where_p_takes_its_place(self):
        for p in (b"1", b"null", b"[]"):
            self.check(b"[1,]", p, NOT_DOCUMENT)

    # Though nothing of it would be in the answer.
    def test_wrong_where_it_would_be_taken_out(self):
        self.check(b'{"a":01}', b'{"a":null}', NOT_DOCUMENT)
        self.check(b'{"a":1}', b'{"a":nul}', NOT_SECOND)
        self.check(b'{"a":1,"b":{"c":1,"c":2}}', b'{"b":null}', NOT_DOCUMENT)
        self.check(b'{"a":1}', b'{"a":null,"a":null}', NOT_SECOND)
        self.check(b'{"a":1}', b'{"a":null,"\\u0061":1}', NOT_SECOND)


class Nested(Merged):
    DEEP = {deep: (b"[" * deep + b"]" * deep, b'{"a":' * deep + b"1" + b"}" * deep, b'{"a":' * (deep - 1) + b"[]" + b"}" * (deep - 1),
                   b'{"a":' * (deep - 1) + b"{}" + b"}" * (deep - 1), nested(deep), nested(deep, b"{}")) for deep in (32, 33, 34, 35)}

    def test_thirty_two(self):
        for value in self.DEEP[32]:
            self.check(value, b"1", b"1")
            self.check(b"1", value, value)
            self.check(b"{}", value, value)
            self.check(value, value, value)
            self.check(value, b'{"b":1}', value[:-1] + b',"b":1}' if value[:1] == b"{" else b'{"b":1}')

    # Deeper is for what holds operations alone.
    def test_deeper(self):
        for deep in (33, 34, 35):
            for value in self.DEEP[deep]:
                self.check(value, b"{}", NOT_DOCUMENT)
                self.check(value, b"1", NOT_DOCUMENT)
                self.check(b"{}", value, NOT_SECOND)
                self.check(b"1", value, NOT_SECOND)
                self.check(value, value, NOT_DOCUMENT)

    def test_deeper_beside_others(self):
        for value in self.DEEP[32]:
            self.check(b'{"x":1,"y":' + value + b"}", b'{"y":null}', NOT_DOCUMENT)
            self.check(b'{"x":1}', b'{"x":null,"y":' + value + b"}", NOT_SECOND)
            self.check(b'{"x":1}', b'{"x":[' + value + b"]}", NOT_SECOND)


class WhichIsTold(Merged):
    LARGE = b'{"a":"' + b"\\n" * 32700 + b'"}'

    def test_ahead_of_too_large(self):
        other = self.LARGE.replace(b"a", b"b", 1)
        self.check(self.LARGE, other, TOO_LARGE)
        self.check(self.LARGE[:-1], other, NOT_DOCUMENT)
        self.check(self.LARGE, other[:-1], NOT_SECOND)
        self.check(self.LARGE[:-1], other[:-1], NOT_DOCUMENT)
        self.check(self.LARGE, other[:-1] + b"]", NOT_SECOND)
        self.check(self.LARGE, other[:-1] + b',"b":null}', NOT_SECOND)


if __name__ == "__main__":
    unittest.main()
