"""What merge and same keep to alike: t and p are both documents, and the refusals are told in that order."""
from asking import NOT_DOCUMENT, NOT_SECOND, WRONG_DOCUMENTS, nested


class TwoDocuments:
    """Stands beside a TestCase that has check(t, p, wanted)."""

    RIGHT = (b"{}", b'{"a":1}', b"null", b"[1]", b'"a"', b'{"a":{"b":null}}')
    WHOLE = b'{"a":{"b":[1,"\\u00e9"]},"c":null}'

    def test_t(self):
        for t in WRONG_DOCUMENTS:
            for p in self.RIGHT:
                self.check(t, p, NOT_DOCUMENT)

    def test_p(self):
        for p in WRONG_DOCUMENTS:
            for t in self.RIGHT:
                self.check(t, p, NOT_SECOND)

    def test_both(self):
        for t in WRONG_DOCUMENTS:
            for p in (b"", b"{", b"01", b'"\xff"', nested(33), t):
                self.check(t, p, NOT_DOCUMENT)
                self.check(p, t, NOT_DOCUMENT)

    def test_empty(self):
        self.check(b"", b"{}", NOT_DOCUMENT)
        self.check(b"{}", b"", NOT_SECOND)
        self.check(b"", b"", NOT_DOCUMENT)

    def test_cut_short(self):
        for size in range(len(self.WHOLE)):
            self.check(self.WHOLE[:size], self.WHOLE, NOT_DOCUMENT)
            self.check(self.WHOLE, self.WHOLE[:size], NOT_SECOND)

    def test_brackets_alone(self):
        for value in (b"[" * 65536, b'{"a":' * 13107, b"[" * 32768 + b"]" * 32768, b'{"":' * 16384):
            self.check(value, value, NOT_DOCUMENT)
            self.check(value, b"1", NOT_DOCUMENT)
            self.check(b"1", value, NOT_SECOND)

    def test_blanks_alone(self):
        self.check(b" " * 65536, b"1", NOT_DOCUMENT)
        self.check(b"1", b" " * 65536, NOT_SECOND)
