"""patch beside what tests/patch_model.py tells: all single operations, long rows of chosen ones, small changes to their bytes."""
import collections
import itertools
import random
import unittest
from unittest import mock

from asking import Compared, ask_patch, write
from patch_model import Cannot, another, do, expected_patch
from patching import add, copy, move, remove, replace, tested
from patchwords import writing

SMALL = {"a": [1, {"b": None}, []], "0": {"": True, "-": {}}, "~/": "x"}
POINTERS = ["", "/", "/a", "/0", "/-", "/~0~1", "/x", "/a/0", "/a/1", "/a/2", "/a/3", "/a/4", "/a/-", "/a/01", "/a/", "/a/1/b",
            "/a/1/c", "/a/1/b/c", "/a/2/0", "/a/2/-", "/0/", "/0/-", "/0/x", "/0/-/x", "/x/y", "/a/b", "/~0~1/0"]
VALUES = [None, 1, True, "x", [], {}, {"b": None}, [1, {"b": None}, []], {"-": {}, "": True}, SMALL]
ROWS = [add("/a/-", {"b": [1]}), copy("/a", "/b~0"), tested("/b~0/0", 1), move("/a/1/b", "/a"),
        remove("/b~0/1")]


def singles():
    for path in POINTERS:
        yield remove(path)
        for value in VALUES:
            yield from (add(path, value), replace(path, value), tested(path, value))
        for source in POINTERS:
            yield from (move(source, path), copy(source, path))


def pointers_in(value, pointer=""):
    yield pointer
    if isinstance(value, dict):
        for name in value:
            yield from pointers_in(value[name], pointer + "/" + name.replace("~", "~0").replace("/", "~1"))
    if isinstance(value, list):
        for place, item in enumerate(value):
            yield from pointers_in(item, f"{pointer}/{place}")


def chosen_value(choice, deep):
    kind = choice.randrange(8 if deep else 5)
    if kind >= 5:
        return [chosen_value(choice, deep - 1) for _ in range(choice.randrange(4))]
    if kind >= 3 and deep:
        names = choice.choices(["a", "b", "", "0", "~", "/", "\n", "\u00e9"], k=choice.randrange(4))
        return {name: chosen_value(choice, deep - 1) for name in names}
    return choice.choice([None, True, False, 0, 1, -12, "", "a", "\t\"", "\u20ac", 10 ** 18])


def chosen_pointer(choice, document):
    found = choice.choice(list(pointers_in(document)))
    return found + choice.choice(["", "", "", "/-", "/0", "/1", "/a", "/b", "/~0", "/01"])


def chosen_row(choice, document):
    path = chosen_pointer(choice, document)
    source = chosen_pointer(choice, document)
    value = chosen_value(choice, 2)
    return choice.choice([add(path, value), add(path, value), remove(path), replace(path, value), move(source, path),
                          copy(source, path), tested(path, value)])


def chosen_rows(choice, document, many):
    """Mostly ones that can be done: of the others only each tenth is kept."""
    document = another(document)
    rows = []
    while len(rows) < many:
        row = chosen_row(choice, document)
        try:
            document = do(another(document), row)
            rows.append(row)
        except Cannot:
            if choice.randrange(10) == 0:
                rows.append(row)
    return rows


class AgainstModel(Compared):
    def check(self, calls, *limits):
        return self.compare(ask_patch, expected_patch, calls, *limits)

    def test_single_operations(self):
        seen = self.check((write(SMALL), write([row])) for row in singles())
        self.assertGreater(min(seen[0], seen[-5]), 500)

    def test_single_operations_on_lists(self):
        seen = self.check((write(t), write([row])) for t in ([], [[0, 1], 2, [3]]) for row in singles())
        self.assertGreater(min(seen[0], seen[-5]), 100)

    def test_moves_and_copies_within_a_list(self):
        places = ["", "/-"] + [f"/{place}" for place in range(6)] + [f"/{place}/0" for place in range(5)]
        t = write([0, [1], {"0": 2}, [], 4])
        for source, path in itertools.product(places, places):
            self.check((t, write([row])) for row in (move(source, path), copy(source, path)))

    def test_rows_of_operations(self):
        choice = random.Random(20)
        seen = collections.Counter()
        for _ in range(1500):
            document = chosen_value(choice, 3)
            rows = chosen_rows(choice, document, choice.randrange(1, 12))
            seen += self.check([(write(document), write(rows))])
        self.assertGreater(min(seen[0], seen[-5]), 300)

    # Sizes and depths that are far lower than the document's, so that rows of small operations meet them often.
    def test_rows_of_operations_with_less_room(self):
        choice = random.Random(30)
        seen = collections.Counter()
        for most_bytes, deepest in itertools.product((40, 60, 80, 100), (3, 4, 5, 64)):
            with mock.patch.multiple(writing, MOST_BYTES=most_bytes, DEEPEST_WRITTEN=deepest):
                for _ in range(120):
                    # One that is small enough to begin with, as every document is.
                    document = [chosen_value(choice, 1)] if deepest > 2 else []
                    if len(write(document)) <= most_bytes:
                        rows = chosen_rows(choice, document, choice.randrange(1, 14))
                        seen += self.check([(write(document), write(rows))], most_bytes, deepest)
        self.assertGreater(min(seen[0], seen[-5], seen[-7]), 150, seen)

    def test_small_changes_to_operations(self):
        t = write(SMALL)
        p = write(ROWS)
        self.assertIsInstance(expected_patch(t, p), bytes)
        signs = b'[]{},:"\\ /~01-an\x00\x1f\x80\xc3\xff'
        changed = [p[:place] + p[place + 1:] for place in range(len(p))]
        for place, sign in itertools.product(range(len(p) + 1), signs):
            changed += [p[:place] + bytes([sign]) + p[place + 1:], p[:place] + bytes([sign]) + p[place:]]
        seen = self.check((t, p) for p in changed)
        self.assertGreater(min(seen[0], seen[-4], seen[-5]), 100)

    def test_operations_cut_short(self):
        p = write(ROWS)
        seen = self.check((write(SMALL), p[:size]) for size in range(len(p)))
        self.assertEqual(dict(seen), {-4: len(p)})

    def test_small_changes_to_the_document(self):
        t = write(SMALL)
        p = write(ROWS[:2])
        signs = b'[]{},:"\\a01 \xff'
        seen = self.check((t[:place] + bytes([sign]) + t[place + 1:], p) for place in range(len(t) + 1) for sign in signs)
        self.assertGreater(min(seen[0], seen[-3], seen[-5]), 5)


if __name__ == "__main__":
    unittest.main()
