"""same beside what tests/comparing.py tells: all pairs of small values, chosen larger ones, small changes to the bytes."""
import itertools
import random
import unittest

from asking import Compared, ask_same, write
from comparing import expected_same

LEAVES = [None, True, False, 0, 1, "", "1", [], {}]
LARGER = {"a": [1, {"b": None, "\u00e9": True}], "c": "\n/", "d": {"e": {"f": -1}, "": [[]]}}
# The same, in another order and in other words.
IN_OTHER_WORDS = b'{ "d":{"":[[]],"e":{"f":-1}},"\\u0063":"\\n\\/","a":[1,{"\\u00e9":true,"b":null}] }'


def small_values():
    yield from LEAVES
    yield from ([value] for value in LEAVES)
    yield from ([one, other] for one, other in itertools.product(LEAVES[:5], repeat=2))
    yield from ({name: value} for name in ("", "a") for value in LEAVES)
    for names in (("a", "b"), ("b", "a")):
        yield from (dict(zip(names, pair)) for pair in itertools.product([None, 1, True, [], {}], repeat=2))


def chosen_value(choice, deep):
    kind = choice.randrange(4)
    if deep == 0 or kind == 0:
        return choice.choice([None, True, 1, "a"])
    if kind == 1:
        return [chosen_value(choice, deep - 1) for _ in range(choice.randrange(3))]
    return {name: chosen_value(choice, deep - 1) for name in choice.sample(["a", "b", ""], choice.randrange(4))}


def changed_somewhere(choice, value):
    """Like the value, members in another order; mostly the same, at times with something else in one place."""
    if isinstance(value, dict):
        return {name: changed_somewhere(choice, value[name]) for name in choice.sample(list(value), len(value))}
    if isinstance(value, list):
        return [changed_somewhere(choice, item) for item in value]
    return choice.choice([value] * 12 + [None, False])


class AgainstModel(Compared):
    def check(self, calls):
        return self.compare(ask_same, expected_same, calls)

    def test_small_values(self):
        written = [write(value) for value in small_values()]
        seen = self.check(itertools.product(written, written))
        self.assertGreater(min(seen[0], seen[1]), 80, seen)

    def test_chosen_values(self):
        choice = random.Random(11)
        for _ in range(3000):
            t, p = (write(chosen_value(choice, 2)) for _ in range(2))
            self.check([(t, p), (p, t)])

    def test_values_that_are_nearly_alike(self):
        choice = random.Random(12)
        pairs = []
        for _ in range(2500):
            value = chosen_value(choice, 4)
            pairs.append((write(value), write(changed_somewhere(choice, value))))
        seen = self.check(pairs) + self.check((p, t) for t, p in pairs)
        self.assertGreater(min(seen[0], seen[1]), 800, seen)

    def test_small_changes(self):
        t, p = write(LARGER), IN_OTHER_WORDS
        self.assertEqual(expected_same(t, p), 1)
        signs = b'[]{},:"\\ /01-anu\x00\x1f\x80\xc3\xff'
        for_t = [t[:place] + bytes([sign]) + t[place + 1:] for place, sign in itertools.product(range(len(t) + 1), signs)]
        for_p = [p[:place] + bytes([sign]) + p[place:] for place, sign in itertools.product(range(len(p) + 1), signs)]
        seen = self.check([(one, p) for one in for_t] + [(t, one) for one in for_p])
        self.assertGreater(min(seen[0], seen[1], seen[-3], seen[-4]), 50, seen)

    def test_cut_short(self):
        t, p = write(LARGER), IN_OTHER_WORDS
        self.assertEqual(dict(self.check((t[:size], p) for size in range(len(t)))), {-3: len(t)})
        self.assertEqual(dict(self.check((t, p[:size]) for size in range(len(p)))), {-4: len(p)})


if __name__ == "__main__":
    unittest.main()
