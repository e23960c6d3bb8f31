"""Writes a value, as patchwords.values tells of it, into bytes."""
from patchwords.refusals import TooLarge
from patchwords.signs import BACKSLASH, BLANK, CLOSE_LIST, CLOSE_MEMBERS, COLON, COMMA, OPEN_LIST, OPEN_MEMBERS
from patchwords.signs import QUOTE, spelled

MOST_BYTES = 262144
DEEPEST_WRITTEN = 64
DIGITS = "0123456789abcdef"


def check_size(value):
    if value.size > MOST_BYTES or value.depth > DEEPEST_WRITTEN:
        raise TooLarge()


def written(value):
    # Asked ahead of writing, so that nothing deep is ever gone through.
    check_size(value)
    out = []
    write_value(value.content, out)
    return out


def write_value(content, out):
    if isinstance(content, list):
        write_list(content, out)
    elif isinstance(content, dict):
        write_members(content, out)
    elif isinstance(content, tuple):
        out.extend(text_bytes(content))
    else:
        out.extend(plain_bytes(content))


def plain_bytes(content):
    # These go ahead of whole numbers: to Python True and False are such.
    if content is None:
        return spelled("null")
    if content is True:
        return spelled("true")
    if content is False:
        return spelled("false")
    return spelled(str(content))


def write_list(listed, out):
    out.append(OPEN_LIST)
    for place, value in enumerate(listed):
        if place > 0:
            out.append(COMMA)
        write_value(value.content, out)
    out.append(CLOSE_LIST)


def write_members(members, out):
    out.append(OPEN_MEMBERS)
    for place, name in enumerate(members):
        if place > 0:
            out.append(COMMA)
        out.extend(name_bytes(name))
        write_value(members[name].content, out)
    out.append(CLOSE_MEMBERS)


def name_bytes(name):
    return text_bytes(name) + [COLON]


def text_bytes(text):
    out = [QUOTE]
    for sign in text:
        if sign < BLANK:
            out.extend(spelled("\\u00" + DIGITS[sign // 16] + DIGITS[sign % 16]))
        else:
            if sign == QUOTE or sign == BACKSLASH:
                out.append(BACKSLASH)
            out.append(sign)
    out.append(QUOTE)
    return out
