"""Reads the bytes of a pointer into its names, and follows them through a value."""
from patchwords.refusals import NotPointer, Nowhere
from patchwords.signs import SLASH, TILDE, ZERO, is_digit

# What stands behind a ~, and the byte that is meant.
ESCAPES = {0x30: 0x7E, 0x31: 0x2F}


def read_pointer(source):
    parts = split_at_slashes(source)
    # Ahead of the first / there is nothing, be it that there are no names at all.
    if len(parts[0]) > 0:
        raise NotPointer()
    return [read_name(part) for part in parts[1:]]


def split_at_slashes(source):
    parts = [[]]
    for sign in source:
        if sign == SLASH:
            parts.append([])
        else:
            parts[-1].append(sign)
    return parts


def read_name(part):
    name = []
    behind_tilde = False
    for sign in part:
        if behind_tilde:
            if sign not in ESCAPES:
                raise NotPointer()
            name.append(ESCAPES[sign])
            behind_tilde = False
        elif sign == TILDE:
            behind_tilde = True
        else:
            name.append(sign)
    if behind_tilde:
        raise NotPointer()
    return tuple(name)


def follow(value, names):
    found = value
    for name in names:
        found = step(found, name)
    return found


def step(value, name):
    return value.content[key_of(value, name)]


# The name itself in members, the place in a list.
def key_of(value, name):
    if isinstance(value.content, dict) and name in value.content:
        return name
    if isinstance(value.content, list):
        return place_of(name, len(value.content))
    raise Nowhere()


def place_of(name, length):
    if len(name) == 0 or (len(name) > 1 and name[0] == ZERO):
        raise Nowhere()
    place = 0
    for sign in name:
        if not is_digit(sign):
            raise Nowhere()
        place = place * 10 + sign - ZERO
        # Asked at each digit, so that a long row of them never makes a huge number.
        if place >= length:
            raise Nowhere()
    return place
