"""What the tests of patch share: operations in short form, and checks of an answer."""
from asking import Checked, ask_patch, write

NOT_OPERATIONS = -4
NOT_DONE = -5


def add(path, value):
    return {"op": "add", "path": path, "value": value}


def remove(path):
    return {"op": "remove", "path": path}


def replace(path, value):
    return {"op": "replace", "path": path, "value": value}


def move(source, path):
    return {"op": "move", "from": source, "path": path}


def copy(source, path):
    return {"op": "copy", "from": source, "path": path}


def tested(path, value):
    return {"op": "test", "path": path, "value": value}


class Patched(Checked):
    """Operations are told as bytes, or as a list of Python's own values, or as one of these alone."""

    def check(self, t, rows, wanted):
        if isinstance(rows, dict):
            rows = [rows]
        p = rows if isinstance(rows, bytes) else write(rows)
        self.check_answer(ask_patch, t, p, wanted)

    def check_all(self, t, table):
        for rows, wanted in table:
            self.check(t, rows, wanted)

    def check_refused(self, t, table, number):
        for rows in table:
            self.check(t, rows, number)
