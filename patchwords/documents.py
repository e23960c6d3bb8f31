"""The calls: lists of bytes are handed in, a list of whole numbers is answered."""
from patchwords.changes import all_done
from patchwords.merging import merged
from patchwords.operations import read_operations
from patchwords.pointers import follow, read_pointer
from patchwords.reading import read_document
from patchwords.refusals import NotDocument, NotDone, NotOperations, NotPointer, NotSecondDocument, Nowhere, TooLarge
from patchwords.writing import written


def at(t, p):
    return answered(found_at, t, p)


def patch(t, p):
    return answered(patched, t, p)


def merge(t, p):
    return answered(merged_with, t, p)


def found_at(document, p):
    return follow(document, read_pointer(p))


def patched(document, p):
    return all_done(document, read_operations(p))


def merged_with(document, p):
    return merged(document, read_second(p))


# What p isn't has another number than what t isn't, though both are to be documents.
def read_second(p):
    try:
        return read_document(p)
    except NotDocument:
        raise NotSecondDocument() from None


def answered(work, t, p):
    try:
        document = read_document(t)
        found = written(work(document, p))
    except NotDocument:
        return [-3]
    except (NotPointer, NotOperations, NotSecondDocument):
        return [-4]
    except (Nowhere, NotDone):
        return [-5]
    except TooLarge:
        return [-7]
    return [len(found)] + found
