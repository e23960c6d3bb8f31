"""merge beside what tests/merge_model.py tells: all pairs of small values, chosen larger ones, small changes to the bytes."""
import collections
import itertools
import random
import unittest
from unittest import mock

from asking import Compared, ask_merge, write
from merge_model import expected_merge
from patchwords import writing

LEAVES = [None, True, 0, "", [], [None], {}]
NAMES = ["a", "b", "", "0", "~", "\n", "\"", "\u00e9"]
LARGER = {"a": {"b": [1, None], "\n": {"": None}}, "c": "\u00e9", "d": {"e": {"f": -1}}}
CHANGE = {"d": {"e": {"f": None, "g": {"h": None}}}, "c": None, "a": {"\n": {"": 2}, "b": {}}, "i": [{"j": None}]}


def small_values():
    """Leaves, and members with two names at most, of leaves and of members with one."""
    yield from LEAVES
    inner = LEAVES + [{"a": leaf} for leaf in LEAVES]
    for name in ("a", "b"):
        yield from ({name: value} for value in inner)
    for one, other in itertools.product(LEAVES, [None, 1, {"a": None}]):
        yield {"b": one, "a": other}


def chosen_value(choice, deep, names):
    if deep == 0 or choice.randrange(4) == 0:
        return choice.choice([None, None, True, False, 0, -3, "", "\t\u20ac", 2 ** 63 - 1, [None, {"a": None}]])
    if choice.randrange(6) == 0:
        return [chosen_value(choice, deep - 1, names) for _ in range(choice.randrange(3))]
    picked = choice.sample(names, choice.randrange(len(names) + 1))
    return {name: chosen_value(choice, deep - 1, names) for name in picked}


class AgainstModel(Compared):
    def check(self, calls, *limits):
        return self.compare(ask_merge, expected_merge, calls, *limits)

    def test_small_values(self):
        written = [write(value) for value in small_values()]
        seen = self.check(itertools.product(written, written))
        self.assertEqual(dict(seen), {0: len(written) ** 2})

    def test_chosen_values(self):
        choice = random.Random(9)
        for many in (2, 4, 8):
            for _ in range(500):
                t, p = (write(chosen_value(choice, 5 if many < 8 else 3, NAMES[:many])) for _ in range(2))
                if max(len(t), len(p)) <= 65536:
                    self.check([(t, p), (p, t)])

    # Sizes and depths that are far lower than the document's, so that small values meet them often.
    def test_less_room(self):
        choice = random.Random(10)
        seen = collections.Counter()
        for most_bytes, deepest in itertools.product((20, 40, 60, 80), (2, 3, 4, 64)):
            with mock.patch.multiple(writing, MOST_BYTES=most_bytes, DEEPEST_WRITTEN=deepest):
                for _ in range(60):
                    t, p = (write(chosen_value(choice, 3, NAMES[:4])) for _ in range(2))
                    seen += self.check([(t, p)], most_bytes, deepest)
        self.assertGreater(min(seen[0], seen[-7]), 100, seen)

    def test_small_changes(self):
        t, p = write(LARGER), write(CHANGE)
        signs = b'[]{},:"\\ /01-anu\x00\x1f\x80\xc3\xff'
        for_t = [t[:place] + bytes([sign]) + t[place + 1:] for place, sign in itertools.product(range(len(t) + 1), signs)]
        for_p = [p[:place] + bytes([sign]) + p[place + 1:] for place, sign in itertools.product(range(len(p) + 1), signs)]
        seen = self.check([(one, p) for one in for_t] + [(t, one) for one in for_p])
        self.assertGreater(min(seen[0], seen[-3], seen[-4]), 50, seen)
        self.assertEqual(dict(self.check(zip(for_t[::3], for_p[::-2]))).keys() - {0, -3, -4}, set())

    def test_cut_short(self):
        t, p = write(LARGER), write(CHANGE)
        self.assertEqual(dict(self.check((t[:size], p) for size in range(len(t)))), {-3: len(t)})
        self.assertEqual(dict(self.check((t, p[:size]) for size in range(len(p)))), {-4: len(p)})


if __name__ == "__main__":
    unittest.main()
