"""Does operations: each makes another document out of the one before."""
from patchwords.pointers import follow, key_of, place_of, step
from patchwords.refusals import NotDone, Nowhere
from patchwords.sameness import is_same
from patchwords.signs import MINUS
from patchwords.values import with_item, with_member, with_other, without
from patchwords.writing import check_size


def all_done(document, operations):
    changed = document
    for operation in operations:
        changed = done(changed, operation)
        # Asked behind each one: a later one that makes it smaller doesn't count.
        check_size(changed)
    return changed


def done(document, operation):
    if operation.word == "add":
        return added(document, operation.path, operation.value)
    if operation.word == "remove":
        return removed(document, operation.path)
    if operation.word == "replace":
        return replaced(document, operation.path, operation.value)
    if operation.word == "move":
        return moved(document, operation.source, operation.path)
    if operation.word == "copy":
        return added(document, operation.path, follow(document, operation.source))
    return tested(document, operation.path, operation.value)


def added(document, path, value):
    if len(path) == 0:
        return value
    trail = trail_of(document, path[:-1])
    return put_back(trail, path[:-1], add_to(trail[-1], path[-1], value))


def add_to(holder, name, value):
    if isinstance(holder.content, dict):
        if name in holder.content:
            return with_other(holder, name, value)
        return with_member(holder, name, value)
    if isinstance(holder.content, list):
        return with_item(holder, place_to_add(name, len(holder.content)), value)
    raise Nowhere()


def place_to_add(name, length):
    if name == (MINUS,):
        return length
    return place_of(name, length + 1)


def removed(document, path):
    if len(path) == 0:
        raise NotDone()
    trail = trail_of(document, path[:-1])
    holder = trail[-1]
    return put_back(trail, path[:-1], without(holder, key_of(holder, path[-1])))


def replaced(document, path, value):
    return put_back(trail_of(document, path), path, value)


def moved(document, source, path):
    value = follow(document, source)
    if path == source:
        return document
    if path[:len(source)] == source:
        raise NotDone()
    return added(removed(document, source), path, value)


def tested(document, path, value):
    if not is_same(follow(document, path), value):
        raise NotDone()
    return document


# All that the names lead through: the document first, what they lead to last.
def trail_of(document, names):
    trail = [document]
    for name in names:
        trail.append(step(trail[-1], name))
    return trail


# The document, with another value in the place of what the trail ends with.
def put_back(trail, names, value):
    changed = value
    for holder, name in reversed(list(zip(trail, names))):
        changed = with_other(holder, key_of(holder, name), changed)
    return changed
