"""Reads the bytes of a list of operations."""
from patchwords.pointers import read_pointer
from patchwords.reading import read_nested
from patchwords.refusals import NotDocument, NotOperations
from patchwords.signs import spelled

DEEPEST_OPERATIONS = 34
WITH_VALUE = ("add", "replace", "test")
WITH_SOURCE = ("move", "copy")
WORDS = ("add", "remove", "replace", "move", "copy", "test")


# source is where "from" points to; it and value are None where the word doesn't need them.
class Operation:
    def __init__(self, word, path, source, value):
        self.word = word
        self.path = path
        self.source = source
        self.value = value


def read_operations(source):
    try:
        listed = read_nested(source, DEEPEST_OPERATIONS).content
    except NotDocument:
        raise NotOperations() from None
    if not isinstance(listed, list):
        raise NotOperations()
    return [read_operation(value.content) for value in listed]


def read_operation(members):
    if not isinstance(members, dict):
        raise NotOperations()
    word = read_word(members)
    path = read_pointer(text_in(members, "path"))
    source = read_pointer(text_in(members, "from")) if word in WITH_SOURCE else None
    value = member_in(members, "value") if word in WITH_VALUE else None
    return Operation(word, path, source, value)


def read_word(members):
    text = text_in(members, "op")
    for word in WORDS:
        if text == text_of(word):
            return word
    raise NotOperations()


def text_in(members, word):
    content = member_in(members, word).content
    if not isinstance(content, tuple):
        raise NotOperations()
    return content


def member_in(members, word):
    name = text_of(word)
    if name not in members:
        raise NotOperations()
    return members[name]


def text_of(word):
    return tuple(spelled(word))
