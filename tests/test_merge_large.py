"""Promise 3, merge: what is too large and what isn't, and inputs of the greatest length."""
import random
import unittest

from asking import TOO_LARGE, write
from merge_model import merged
from merging import Merged
from patchwords.documents import merge

MOST = 262144
LONGEST = 65536


def text(escapes, letters):
    """A text, how it stands in an input and how it is written: two bytes for each escape there, six here."""
    return b'"' + b"\\n" * escapes + b"x" * letters + b'"', b'"' + b"\\u000a" * escapes + b"x" * letters + b'"'


class HowLarge(Merged):
    """t is members with a long text, p puts another beside it: written, each has up to three times its bytes."""

    def check_beside(self, escapes, letters, wanted_size):
        t_text, t_written = text(32764, 0)
        p_text, p_written = text(escapes, letters)
        whole = b'{"a":' + t_written + b',"b":' + p_written + b"}"
        self.assertEqual(len(whole), wanted_size)
        self.check(b'{"a":' + t_text + b"}", b'{"b":' + p_text + b"}", whole if wanted_size <= MOST else TOO_LARGE)
        self.check(b'{"a":' + p_text + b"}", b'{"b":' + t_text + b"}",
                   b'{"a":' + p_written + b',"b":' + t_written + b"}" if wanted_size <= MOST else TOO_LARGE)

    def test_exactly_the_most(self):
        rest = MOST - len(b'{"a":"","b":""}') - 6 * 32764
        escapes = rest // 6
        letters = rest - 6 * escapes
        for more in (-2, -1, 0, 1, 2, 100):
            self.check_beside(escapes - 20, letters + 120 + more, MOST + more)

    def test_the_largest_of_all(self):
        self.check_beside(32764, 0, len(b'{"a":"","b":""}') + 2 * 6 * 32764)

    def test_in_place_of_another(self):
        t_text, t_written = text(32764, 0)
        p_text, p_written = text(32763, 1)
        self.check(b'{"a":' + t_text + b"}", b'{"a":' + p_text + b"}", b'{"a":' + p_written + b"}")
        self.check(b'{"a":' + t_text + b"}", p_text, p_written)
        self.check(t_text, b'{"a":' + p_text + b"}", b'{"a":' + p_written + b"}")
        self.check(b"[" + t_text + b"]", b"[" + p_text + b"]", b"[" + p_written + b"]")

    def test_each_alone_is_never_too_large(self):
        long_text, written_text = text(32767, 0)
        self.assertEqual(len(long_text), LONGEST)
        for other in (b"null", b"{}", b'{"a":1}'):
            self.check(other, long_text, written_text)
        self.check(long_text, b"{}", b"{}")
        self.check(long_text, long_text, written_text)
        name = b"\\n" * 32765
        self.check(b'{"' + name + b'":1}', b"{}", b'{"' + b"\\u000a" * 32765 + b'":1}')
        self.check(b"{}", b'{"' + name + b'":1}', b'{"' + b"\\u000a" * 32765 + b'":1}')
        self.check(b'{"' + name + b'":1}', b'{"' + name + b'":2}', b'{"' + b"\\u000a" * 32765 + b'":2}')

    # Only what it is in the end counts: on the way there, taken in p's order, it would be larger.
    def test_larger_on_the_way(self):
        t_text, p_text = text(32750, 0)[0], text(32740, 0)[0]
        p_written = text(32740, 0)[1]
        self.check_all(b'{"a":' + t_text + b"}", [
            (b'{"b":' + p_text + b',"a":null}', b'{"b":' + p_written + b"}"), (b'{"b":' + p_text + b',"a":1}', b'{"a":1,"b":' + p_written + b"}"),
            (b'{"b":' + p_text + b',"a":{}}', b'{"a":{},"b":' + p_written + b"}"), (b'{"b":' + p_text + b',"c":1}', TOO_LARGE)])
        self.check_all(b'{"a":{"c":' + t_text + b"}}", [
            (b'{"a":{"b":' + p_text + b',"c":null}}', b'{"a":{"b":' + p_written + b"}}"),
            (b'{"b":' + p_text + b',"a":{"c":null}}', b'{"a":{},"b":' + p_written + b"}"), (b'{"b":' + p_text + b',"a":{"b":1}}', TOO_LARGE)])

    def test_deep_within(self):
        t_text = text(30000, 0)[0]
        for deep in (1, 2, 10, 31):
            t = b'{"a":' * deep + b'{"b":' + t_text + b"}" + b"}" * deep
            p = b'{"a":' * deep + b'{"c":' + b"%s}" + b"}" * deep
            left = MOST - (6 * deep + len(b'{"b":"","c":""}') + 6 * 30000)
            for more in (0, 1):
                p_text, p_written = text(9000, left - 6 * 9000 + more)
                whole = b'{"a":' * deep + b'{"b":"' + b"\\u000a" * 30000 + b'","c":' + p_written + b"}" + b"}" * deep
                self.assertEqual(len(whole), MOST + more)
                self.check(t, p % p_text, TOO_LARGE if more else whole)

    def test_names_count_as_written(self):
        t_text, t_written = text(32764, 0)
        left = MOST - len(b'{"a":"","":1}') - 6 * 32764
        for escapes, quotes in ((left // 6, 0), (10000, (left - 60000) // 2), (10000, 100)):
            letters = left - 6 * escapes - 2 * quotes
            name = b"\\n" * escapes + b'\\"' * quotes + b"x" * letters
            written_name = b"\\u000a" * escapes + b'\\"' * quotes + b"x" * letters
            self.check(b'{"a":' + t_text + b"}", b'{"' + name + b'":1}', b'{"a":' + t_written + b',"' + written_name + b'":1}')
            self.check(b'{"a":' + t_text + b"}", b'{"' + name + b'":12}', TOO_LARGE)
            self.check(b'{"a":' + t_text + b"}", b'{"' + name + b'x":1}', TOO_LARGE)

    def test_bytes_that_stand_as_they_are(self):
        t = b'{"a":"' + b"\xe2\x82\xac" * 21800 + b'"}'
        p = b'{"b":"' + b"\x7f\xc3\xa9" * 21800 + b'"}'
        self.check(t, p, t[:-1] + b"," + p[1:])

    def test_the_answer_has_its_size_ahead(self):
        rest = MOST - len(b'{"a":"","b":""}') - 6 * 32764
        t_text, p_text = text(32764, 0)[0], text(rest // 6, rest % 6)[0]
        answer = merge(list(b'{"a":' + t_text + b"}"), list(b'{"b":' + p_text + b"}"))
        self.assertEqual((answer[0], len(answer)), (MOST, MOST + 1))


def many(names, value):
    return b"{" + b",".join(b'"%s":%s' % (name, value) for name in names) + b"}"


class VeryMany(Merged):
    NAMES = [b"%04x" % number for number in range(6553)]

    def inputs(self, names, value=b"1"):
        t = many(names, value)
        self.assertLessEqual(len(t), LONGEST)
        return t + b" " * (LONGEST - len(t))

    def test_others(self):
        others = [b"z" + name[1:] + name[:1] for name in self.NAMES[:6000]]
        first, second = self.NAMES[:6500], [name for name in others if name not in self.NAMES]
        self.check(self.inputs(first), self.inputs(second), many(first, b"1")[:-1] + b"," + many(second, b"1")[1:])

    def test_the_same_in_another_order(self):
        names = self.NAMES[:6500]
        for order in (names, names[::-1], names[1::2] + names[::2]):
            self.check(self.inputs(names), self.inputs(order, b"2"), many(names, b"2"))

    def test_all_taken_out(self):
        names = self.NAMES[:5000]
        for order in (names, names[::-1], names[1::2] + names[::2]):
            self.check(self.inputs(names), self.inputs(order, b"null"), b"{}")
        self.check(self.inputs(names), self.inputs(names[::2], b"null"), many(names[1::2], b"1"))
        self.check(b"1", self.inputs(names, b"null"), b"{}")

    def test_all_that_begin_with_none(self):
        names = self.NAMES[:5000]
        self.check(self.inputs(names), self.inputs(names, b"{}"), many(names, b"{}"))
        names = self.NAMES[:3000]
        self.check(self.inputs(names, b"[1,2]"), self.inputs(names, b'{"a":null}'), many(names, b"{}"))
        self.check(b"{}", self.inputs(names, b'{"a":null}'), many(names, b"{}"))

    def test_members_in_each(self):
        names = self.NAMES[:4000]
        self.check(self.inputs(names, b'{"a":1}'), self.inputs(names[::-1], b'{"b":2}'), many(names, b'{"a":1,"b":2}'))
        self.check(self.inputs(names, b'{"a":1}'), self.inputs(names[:3000], b'{"a":null}'),
                   many(names[:3000], b"{}")[:-1] + b"," + many(names[3000:], b'{"a":1}')[1:])

    def test_deep_within(self):
        names = self.NAMES[:6400]
        t, p = many(names, b"1"), many(names[::-1], b"3")
        for deep in (1, 16, 31):
            self.check(b'{"a":' * deep + t + b"}" * deep, b'{"a":' * deep + p + b"}" * deep, b'{"a":' * deep + many(names, b"3") + b"}" * deep)

    def test_short_names(self):
        signs = [b"%c" % sign for sign in range(0x23, 0x5C)] + [b"%c" % sign for sign in range(0x5D, 0x7F)]
        names = ([b""] + signs + [one + other for one in signs for other in signs])[:9000]
        t, p = self.inputs(names), self.inputs(names[::-1], b"0")
        self.check(t, p, many(names, b"0"))

    def test_one_long_list(self):
        t = b'{"a":[' + b"1," * 32763 + b"1]}"
        p = b'{"a":[' + b"2," * 32763 + b"2]}"
        self.check(t, p, p)
        self.check(t, p.replace(b'"a"', b'"b"'), t[:-1] + b"," + p[1:].replace(b'"a"', b'"b"'))
        self.check(t, b'{"a":{}}', b'{"a":{}}')

    def test_chosen(self):
        choice = random.Random(96)
        for _ in range(6):
            t = {f"{number:x}": choice.choice([1, None, {"a": 1, "b": None}, [None], "x"]) for number in choice.sample(range(6000), 3200)}
            p = {f"{number:x}": choice.choice([2, None, {"a": None, "c": 3}, [], {}]) for number in choice.sample(range(6000), 3200)}
            self.check(write(t), write(p), write(merged(t, p)))


if __name__ == "__main__":
    unittest.main()
