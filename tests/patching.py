"""What the tests of patch share: operations in short form, and checks of an answer."""
import unittest

from asking import ask_patch, write

NOT_OPERATIONS = -4
NOT_DONE = -5
TOO_LARGE = -7


def add(path, value):
    return {"op": "add", "path": path, "value": value}


def remove(path):
    return {"op": "remove", "path": path}


def replace(path, value):
    return {"op": "replace", "path": path, "value": value}


def move(source, path):
    return {"op": "move", "from": source, "path": path}


def copy(source, path):
    return {"op": "copy", "from": source, "path": path}


def tested(path, value):
    return {"op": "test", "path": path, "value": value}


def nested(deep, innermost=b"[]"):
    """Lists and members by turns; with the innermost one they are so many deep."""
    for level in range(deep - 1):
        innermost = b'{"a":' + innermost + b"}" if level % 2 else b"[" + innermost + b"]"
    return innermost


def shown(answer):
    return answer[:80] if isinstance(answer, bytes) else answer


class Patched(unittest.TestCase):
    """Operations are told as bytes, or as a list of Python's own values, or as one of these alone."""

    def check(self, t, rows, wanted):
        if isinstance(rows, dict):
            rows = [rows]
        p = rows if isinstance(rows, bytes) else write(rows)
        self.assertLessEqual(max(len(t), len(p)), 65536, "more can't be handed in")
        with self.subTest(t=t[:80], p=p[:160]):
            found = ask_patch(t, p)
            if found != wanted:
                self.fail(f"answered {shown(found)!r}, not {shown(wanted)!r}")

    def check_all(self, t, table):
        for rows, wanted in table:
            self.check(t, rows, wanted)

    def check_refused(self, t, table, number):
        for rows in table:
            self.check(t, rows, number)
