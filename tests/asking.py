"""What the tests of the calls share: calling with bytes, checks of an answer, and one made with Python's own json."""
import collections
import json
import unittest

from patchwords.documents import at, merge, patch, same

NOT_DOCUMENT = -3
# p isn't what it's to be, where it's to be a document.
NOT_SECOND = -4
TOO_LARGE = -7


def nested(deep, innermost=b"[]"):
    """Lists and members by turns; with the innermost one they are so many deep."""
    for level in range(deep - 1):
        innermost = b'{"a":' + innermost + b"}" if level % 2 else b"[" + innermost + b"]"
    return innermost


# Of each way in which bytes may be no document, one or more.
WRONG_DOCUMENTS = (
    b"", b" ", b"\t\r\n", b"[", b"]", b"{", b"}", b"[}", b"{]", b"[1", b'{"a":1', b"[1,]", b'{"a":1,}', b"[,1]", b"{,}", b"[1 2]", b"1 1",
    b"{}{}", b"{}x", b"1,", b"null null", b"nul", b"Null", b"nulll", b"True", b"01", b"-0", b"-", b"+1", b"1.0", b"1e1", b"00", b"--1",
    b"9223372036854775808", b"-9223372036854775809", b'"', b'"a', b'a"', b"'a'", b'"\n"', b'"\x1f"', b'"\\x"', b'"\\u12"', b'"\\u12g4"',
    b'"\\ud800"', b'"\\udc00"', b'"\\ud800\\u0041"', b'"\\udc00\\ud800"', b'"\xff"', b'"\xc0\xaf"', b'"\xed\xa0\x80"', b'"\xf4\x90\x80\x80"',
    b'"\xc3"', b"\xef\xbb\xbf{}", b"\x00", b"{}\x00", b'{"a"}', b'{"a":}', b'{:1}', b'{a:1}', b'{1:1}', b'{null:1}', b'{"a" 1}',
    b'{"a":1 "b":2}', b'{"a":1,"a":1}', b'{"a":1,"\\u0061":2}', b'{"a":null,"a":null}', b'{"b":{"a":1,"a":1}}', b"[1,2,,3]",
    nested(33), nested(33, b"{}"), b"[" * 33 + b"]" * 33, b'{"a":' * 32 + b"{}" + b"}" * 32, nested(34), b"[" * 65536)


class Unchanging(list):
    """A list that fails a test as soon as something tries to change it."""

    def refuse(self, *args, **kwargs):
        raise AssertionError("what is handed in was changed")

    append = extend = insert = pop = remove = clear = sort = reverse = refuse
    __setitem__ = __delitem__ = __iadd__ = __imul__ = refuse


def numbers(call, t, p):
    """What was answered: a list of whole numbers, of which a refusal stands alone."""
    answer = call(Unchanging(t), Unchanging(p))
    if type(answer) is not list or any(type(number) is not int for number in answer):
        raise AssertionError(f"not a list of whole numbers: {answer!r}")
    if answer[0] < 0 and len(answer) != 1:
        raise AssertionError(f"a refusal doesn't stand alone: {answer!r}")
    return answer


def ask(call, t, p):
    """A refusal's number, or the bytes that were answered."""
    answer = numbers(call, t, p)
    if answer[0] < 0:
        return answer[0]
    if answer[0] != len(answer) - 1:
        raise AssertionError(f"{answer[0]} bytes were told, {len(answer) - 1} came")
    return bytes(answer[1:])


def ask_at(t, p=b""):
    return ask(at, t, p)


def ask_patch(t, p):
    return ask(patch, t, p)


def ask_merge(t, p):
    return ask(merge, t, p)


def ask_same(t, p):
    """A refusal's number, or 1 or 0."""
    answer = numbers(same, t, p)
    if len(answer) != 1 or answer[0] > 1:
        raise AssertionError(f"not one number, 1 or 0: {answer!r}")
    return answer[0]


def shown(answer):
    return answer[:80] if isinstance(answer, bytes) else answer


class Checked(unittest.TestCase):
    def check_answer(self, asked, t, p, wanted):
        self.assertLessEqual(max(len(t), len(p)), 65536, "more can't be handed in")
        with self.subTest(t=t[:80], p=p[:160]):
            found = asked(t, p)
            if found != wanted:
                self.fail(f"answered {shown(found)!r}, not {shown(wanted)!r}")


class Compared(unittest.TestCase):
    def compare(self, asked, expected, calls, *limits):
        """How often each number was answered, with bytes counted as 0; expected tells what is to be answered."""
        seen = collections.Counter()
        for t, p in calls:
            wanted = expected(t, p, *limits)
            found = asked(t, p)
            seen[wanted if isinstance(wanted, int) else 0] += 1
            if found != wanted:
                self.fail(f"{t!r} {p!r}: answered {found!r}, not {wanted!r}")
        return seen


def refuse_value(text):
    raise ValueError(text)


def whole_number(text):
    if text == "-0" or len(text) > 20 or not -2 ** 63 <= int(text) < 2 ** 63:
        raise ValueError(text)
    return int(text)


def members(pairs):
    found = dict(pairs)
    if len(found) != len(pairs):
        raise ValueError("a name twice")
    return found


def depth(value):
    if isinstance(value, dict):
        return 1 + max(map(depth, value.values()), default=0)
    if isinstance(value, list):
        return 1 + max(map(depth, value), default=0)
    return 0


def write_text(text):
    signs = (f"\\u{ord(s):04x}" if s < " " else "\\" + s if s in '"\\' else s for s in text)
    return b'"' + "".join(signs).encode("utf-8") + b'"'


def write(value):
    if isinstance(value, dict):
        return b"{" + b",".join(write_text(name) + b":" + write(value[name]) for name in value) + b"}"
    if isinstance(value, list):
        return b"[" + b",".join(map(write, value)) + b"]"
    if isinstance(value, str):
        return write_text(value)
    return json.dumps(value).encode("ascii")


def read(t, deepest):
    """The value of t, told without the program; ValueError if there is none."""
    value = json.loads(t.decode("utf-8"), object_pairs_hook=members, parse_int=whole_number,
                       parse_float=refuse_value, parse_constant=refuse_value)
    # One half of a character alone can't be encoded, and so is refused here.
    write(value)
    if depth(value) > deepest:
        raise ValueError("nested too deep")
    return value


def expected_of_two(t, p, deepest, tell):
    """What is to be answered where p is a value too, at most so many deep: the refusal of one that isn't, or what tell answers."""
    try:
        value = read(t, 32)
    except ValueError:
        return NOT_DOCUMENT
    try:
        other = read(p, deepest)
    except ValueError:
        return NOT_SECOND
    return tell(value, other)


def expected_whole(t):
    """What at is to answer for all of t, told without the program."""
    try:
        return write(read(t, 32))
    except ValueError:
        return NOT_DOCUMENT
