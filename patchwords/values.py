"""Values, each with how many bytes it has when it is written and how deep it is nested.

A value's content is None, True, False, a whole number, a text, a list of values, or a dict of values by their names.
A text, and so a name, is the tuple of its bytes in UTF-8.

A value is never changed: what would change it makes another one, which shares all that stayed as it was. So copies
cost nothing, and size and depth are known without going through a value again.
"""
from patchwords.writing import name_bytes, plain_bytes, text_bytes


class Value:
    def __init__(self, content, size, depth):
        self.content = content
        self.size = size
        self.depth = depth


def plain_value(content):
    return Value(content, len(plain_bytes(content)), 0)


def text_value(text):
    return Value(text, len(text_bytes(text)), 0)


def list_value(listed):
    sizes = [value.size for value in listed]
    return Value(listed, enclosed_size(sizes), enclosed_depth(listed))


def members_value(members):
    sizes = [len(name_bytes(name)) + members[name].size for name in members]
    return Value(members, enclosed_size(sizes), enclosed_depth(members))


def enclosed_size(sizes):
    commas = max(0, len(sizes) - 1)
    return 2 + sum(sizes) + commas


def enclosed_depth(content):
    inner = list(content.values()) if isinstance(content, dict) else content
    return 1 + max([value.depth for value in inner], default=0)


# What follows takes a list or members, and the key (a place or a name) of what is to be changed in it.


def with_other(holder, key, value):
    content = holder.content.copy()
    other = content[key]
    content[key] = value
    size = holder.size - other.size + value.size
    return Value(content, size, changed_depth(holder, content, other.depth, value.depth))


def with_member(holder, name, value):
    content = dict(holder.content)
    content[name] = value
    return with_more(holder, content, len(name_bytes(name)), value)


def with_item(holder, place, value):
    content = list(holder.content)
    content.insert(place, value)
    return with_more(holder, content, 0, value)


def with_more(holder, content, name_size, value):
    comma = 1 if len(holder.content) > 0 else 0
    size = holder.size + comma + name_size + value.size
    return Value(content, size, changed_depth(holder, content, 0, value.depth))


def without(holder, key):
    content = holder.content.copy()
    taken = content.pop(key)
    name_size = len(name_bytes(key)) if isinstance(content, dict) else 0
    comma = 1 if len(content) > 0 else 0
    size = holder.size - comma - name_size - taken.size
    return Value(content, size, changed_depth(holder, content, taken.depth, 0))


# Nothing at all counts like what is not nested, 0: neither makes its holder deeper than 1.
def changed_depth(holder, content, depth_before, depth_behind):
    # Only where the deepest one became less deep do the others have to be asked, however many they are.
    if depth_behind < depth_before and depth_before + 1 == holder.depth:
        return enclosed_depth(content)
    return max(holder.depth, depth_behind + 1)
