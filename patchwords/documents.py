"""The calls: lists of bytes are handed in, a list of whole numbers is answered."""
from patchwords.pointers import follow, read_pointer
from patchwords.reading import read_document
from patchwords.refusals import NotDocument, NotPointer, Nowhere, TooLarge
from patchwords.writing import written


def at(t, p):
    try:
        document = read_document(t)
        names = read_pointer(p)
        found = written(follow(document, names))
    except NotDocument:
        return [-3]
    except NotPointer:
        return [-4]
    except Nowhere:
        return [-5]
    except TooLarge:
        return [-7]
    return [len(found)] + found
