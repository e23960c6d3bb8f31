"""What patch is to answer, told without the program: plain lists and dicts, changed where they stand."""
import json
import re

from asking import depth, expected_of_two, write

POINTER = re.compile(r"(/([^/~]|~[01])*)*", re.DOTALL)
PLACE = re.compile(r"0|[1-9][0-9]*")
NEEDED = {"add": "value", "replace": "value", "test": "value", "move": "from", "copy": "from", "remove": "path"}


class Cannot(Exception):
    pass


def names_of(pointer):
    return [name.replace("~1", "/").replace("~0", "~") for name in pointer.split("/")[1:]]


def is_operation(row):
    if not isinstance(row, dict) or not isinstance(row.get("op"), str) or row["op"] not in NEEDED:
        return False
    pointers = [row.get("path")] + ([row.get("from")] if NEEDED[row["op"]] == "from" else [])
    return NEEDED[row["op"]] in row and all(isinstance(one, str) and POINTER.fullmatch(one) for one in pointers)


def place_in(listed, name, most):
    # A place of very many digits is above every length.
    if not PLACE.fullmatch(name) or len(name) > 9 or int(name) > most:
        raise Cannot
    return int(name)


def lead(value, names):
    for name in names:
        if isinstance(value, dict) and name in value:
            value = value[name]
        elif isinstance(value, list):
            value = value[place_in(value, name, len(value) - 1)]
        else:
            raise Cannot
    return value


def another(value):
    return json.loads(json.dumps(value))


def put(document, names, value):
    if not names:
        return value
    holder = lead(document, names[:-1])
    if isinstance(holder, dict):
        holder[names[-1]] = value
    elif isinstance(holder, list):
        holder.insert(len(holder) if names[-1] == "-" else place_in(holder, names[-1], len(holder)), value)
    else:
        raise Cannot
    return document


def take(document, names):
    lead(document, names)
    if not names:
        raise Cannot
    holder = lead(document, names[:-1])
    holder.pop(int(names[-1]) if isinstance(holder, list) else names[-1])
    return document


def do(document, row):
    path = names_of(row["path"])
    if row["op"] == "add":
        return put(document, path, another(row["value"]))
    if row["op"] == "remove":
        return take(document, path)
    if row["op"] == "replace":
        lead(document, path)
        if not path:
            return another(row["value"])
        holder = lead(document, path[:-1])
        holder[int(path[-1]) if isinstance(holder, list) else path[-1]] = another(row["value"])
        return document
    if row["op"] == "test":
        if json.dumps(lead(document, path), sort_keys=True) != json.dumps(row["value"], sort_keys=True):
            raise Cannot
        return document
    source = names_of(row["from"])
    value = another(lead(document, source))
    if row["op"] == "copy":
        return put(document, path, value)
    if path == source:
        return document
    if path[:len(source)] == source:
        raise Cannot
    return put(take(document, source), path, value)


def do_all(document, rows, most_bytes, deepest):
    document = another(document)
    for row in rows:
        try:
            document = do(document, row)
        except Cannot:
            return -5
        if len(write(document)) > most_bytes or depth(document) > deepest:
            return -7
    return write(document)


def expected_patch(t, p, most_bytes=262144, deepest=64):
    def tell(document, rows):
        if not isinstance(rows, list) or not all(map(is_operation, rows)):
            return -4
        return do_all(document, rows, most_bytes, deepest)

    return expected_of_two(t, p, 34, tell)
