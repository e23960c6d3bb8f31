"""Writes a value, as patchwords.reading tells of it, into bytes."""
from patchwords.refusals import TooLarge
from patchwords.signs import BACKSLASH, BLANK, CLOSE_LIST, CLOSE_MEMBERS, COLON, COMMA, OPEN_LIST, OPEN_MEMBERS
from patchwords.signs import QUOTE, spelled

MOST_BYTES = 262144
DEEPEST_WRITTEN = 64
DIGITS = "0123456789abcdef"


def written(value):
    out = []
    write_value(value, 0, out)
    if len(out) > MOST_BYTES:
        raise TooLarge()
    return out


def write_value(value, depth, out):
    if isinstance(value, list):
        write_list(value, depth + 1, out)
    elif isinstance(value, dict):
        write_members(value, depth + 1, out)
    elif isinstance(value, tuple):
        write_text(value, out)
    else:
        out.extend(spelled(plain_word(value)))


def plain_word(value):
    # These go ahead of whole numbers: to Python True and False are such.
    if value is None:
        return "null"
    if value is True:
        return "true"
    if value is False:
        return "false"
    return str(value)


def write_list(listed, depth, out):
    check_depth(depth)
    out.append(OPEN_LIST)
    for place, value in enumerate(listed):
        if place > 0:
            out.append(COMMA)
        write_value(value, depth, out)
    out.append(CLOSE_LIST)


def write_members(members, depth, out):
    check_depth(depth)
    out.append(OPEN_MEMBERS)
    for place, name in enumerate(members):
        if place > 0:
            out.append(COMMA)
        write_text(name, out)
        out.append(COLON)
        write_value(members[name], depth, out)
    out.append(CLOSE_MEMBERS)


def check_depth(depth):
    if depth > DEEPEST_WRITTEN:
        raise TooLarge()


def write_text(content, out):
    out.append(QUOTE)
    for sign in content:
        if sign < BLANK:
            out.extend(spelled("\\u00" + DIGITS[sign // 16] + DIGITS[sign % 16]))
        else:
            if sign == QUOTE or sign == BACKSLASH:
                out.append(BACKSLASH)
            out.append(sign)
    out.append(QUOTE)
