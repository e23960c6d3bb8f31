"""What the tests of the calls share: calling with bytes, and an answer made with Python's own json."""
import json

from patchwords.documents import at, patch

NOT_DOCUMENT = -3


class Unchanging(list):
    """A list that fails a test as soon as something tries to change it."""

    def refuse(self, *args, **kwargs):
        raise AssertionError("what is handed in was changed")

    append = extend = insert = pop = remove = clear = sort = reverse = refuse
    __setitem__ = __delitem__ = __iadd__ = __imul__ = refuse


def ask(call, t, p):
    """A refusal's number, or the bytes that were answered."""
    answer = call(Unchanging(t), Unchanging(p))
    if type(answer) is not list or any(type(number) is not int for number in answer):
        raise AssertionError(f"not a list of whole numbers: {answer!r}")
    if answer[0] < 0:
        if len(answer) != 1:
            raise AssertionError(f"a refusal doesn't stand alone: {answer!r}")
        return answer[0]
    if answer[0] != len(answer) - 1:
        raise AssertionError(f"{answer[0]} bytes were told, {len(answer) - 1} came")
    return bytes(answer[1:])


def ask_at(t, p=b""):
    return ask(at, t, p)


def ask_patch(t, p):
    return ask(patch, t, p)


def refuse_value(text):
    raise ValueError(text)


def whole_number(text):
    if text == "-0" or len(text) > 20 or not -2 ** 63 <= int(text) < 2 ** 63:
        raise ValueError(text)
    return int(text)


def members(pairs):
    found = dict(pairs)
    if len(found) != len(pairs):
        raise ValueError("a name twice")
    return found


def depth(value):
    if isinstance(value, dict):
        return 1 + max(map(depth, value.values()), default=0)
    if isinstance(value, list):
        return 1 + max(map(depth, value), default=0)
    return 0


def write_text(text):
    signs = (f"\\u{ord(s):04x}" if s < " " else "\\" + s if s in '"\\' else s for s in text)
    return b'"' + "".join(signs).encode("utf-8") + b'"'


def write(value):
    if isinstance(value, dict):
        return b"{" + b",".join(write_text(name) + b":" + write(value[name]) for name in value) + b"}"
    if isinstance(value, list):
        return b"[" + b",".join(map(write, value)) + b"]"
    if isinstance(value, str):
        return write_text(value)
    return json.dumps(value).encode("ascii")


def read(t, deepest):
    """The value of t, told without the program; ValueError if there is none."""
    value = json.loads(t.decode("utf-8"), object_pairs_hook=members, parse_int=whole_number,
                       parse_float=refuse_value, parse_constant=refuse_value)
    # One half of a character alone can't be encoded, and so is refused here.
    write(value)
    if depth(value) > deepest:
        raise ValueError("nested too deep")
    return value


def expected_whole(t):
    """What at is to answer for all of t, told without the program."""
    try:
        return write(read(t, 32))
    except ValueError:
        return NOT_DOCUMENT
