"""The calls: lists of bytes are handed in, a list of whole numbers is answered."""
from patchwords.changes import all_done
from patchwords.merging import merged
from patchwords.operations import read_operations
from patchwords.pointers import follow, read_pointer
from patchwords.reading import read_document
from patchwords.refusals import NotDocument, NotDone, NotOperations, NotPointer, NotSecondDocument, Nowhere, TooLarge
from patchwords.sameness import is_same
from patchwords.writing import written


def at(t, p):
    return answered(found_at, t, p)


def patch(t, p):
    return answered(patched, t, p)


def merge(t, p):
    return answered(merged_with, t, p)


def same(t, p):
    return answered(compared, t, p)


def found_at(document, p):
    return with_length(follow(document, read_pointer(p)))


def patched(document, p):
    return with_length(all_done(document, read_operations(p)))


def merged_with(document, p):
    return with_length(merged(document, read_second(p)))


def compared(document, p):
    return [1] if is_same(document, read_second(p)) else [0]


def with_length(value):
    found = written(value)
    return [len(found)] + found


# What p isn't has another number than what t isn't, though both are to be documents.
def read_second(p):
    try:
        return read_document(p)
    except NotDocument:
        raise NotSecondDocument() from None


def answered(work, t, p):
    try:
        return work(read_document(t), p)
    except NotDocument:
        return [-3]
    except (NotPointer, NotOperations, NotSecondDocument):
        return [-4]
    except (Nowhere, NotDone):
        return [-5]
    except TooLarge:
        return [-7]
