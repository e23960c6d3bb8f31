"""Whether two values are the same: alike, members in whichever order."""


def is_same(one, other):
    if isinstance(one.content, dict):
        return isinstance(other.content, dict) and are_same_members(one.content, other.content)
    if isinstance(one.content, list):
        return isinstance(other.content, list) and are_same_lists(one.content, other.content)
    return is_same_plain(one.content, other.content)


def are_same_members(one, other):
    if len(one) != len(other):
        return False
    for name in one:
        if name not in other or not is_same(one[name], other[name]):
            return False
    return True


def are_same_lists(one, other):
    if len(one) != len(other):
        return False
    for item, other_item in zip(one, other):
        if not is_same(item, other_item):
            return False
    return True


def is_same_plain(one, other):
    # To Python True is 1 and False is 0.
    return isinstance(one, bool) == isinstance(other, bool) and one == other
