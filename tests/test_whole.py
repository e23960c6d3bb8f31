"""The whole program: the four calls beside one another, and the order in which the refusals of each are told."""
import inspect
import itertools
import json
import pathlib
import subprocess
import sys
import unittest

from asking import WRONG_DOCUMENTS, Unchanging, nested, write
from patching import add, copy, remove, replace, tested
from patchwords import documents
from patchwords.documents import at, merge, patch, same

NAMES = ("at", "patch", "merge", "same")
SAMPLE = b'{ "a" : [ 1 , { "b" : null } ] , "\\u0063" : "\\n" , "d" : { "e" : true } }'
WRITTEN = b'{"a":[1,{"b":null}],"c":"\\u000a","d":{"e":true}}'
LONG = b'{"a":"' + b"\\n" * 32700 + b'"}'
DEEP = b"[" * 32 + b"]" * 32
# Put into itself twice, 32 lists are more than 64 deep.
TOO_DEEP = [copy("", "/0" * 31 + "/-"), copy("", "/0" * 63 + "/-")]
CANNOT = [remove("/nowhere")]

# Of each call its answers of each sort: the call, t, p, and the bytes or the number that it's to answer.
CALLS = [
    ("at", SAMPLE, b"", WRITTEN), ("at", SAMPLE, b"/a/1/b", b"null"), ("at", SAMPLE, b"/c", b'"\\u000a"'), ("at", SAMPLE[:-1], b"/a", -3),
    ("at", SAMPLE, b"a", -4), ("at", SAMPLE, b"/x", -5),
    ("patch", SAMPLE, b"[]", WRITTEN), ("patch", SAMPLE, write([add("/a/-", {}), remove("/c")]), b'{"a":[1,{"b":null},{}],"d":{"e":true}}'),
    ("patch", SAMPLE, write([tested("/a/0", 1)]), WRITTEN), ("patch", SAMPLE[:-1], b"[]", -3), ("patch", SAMPLE, b"{}", -4),
    ("patch", SAMPLE, write(CANNOT), -5), ("patch", DEEP, write(TOO_DEEP), -7),
    ("merge", SAMPLE, b"{}", WRITTEN), ("merge", SAMPLE, b'{"a":null,"d":{"e":null,"f":{"g":null}}}', b'{"c":"\\u000a","d":{"f":{}}}'),
    ("merge", SAMPLE, b"[null]", b"[null]"), ("merge", SAMPLE[:-1], b"{}", -3), ("merge", SAMPLE, b"{", -4),
    ("merge", LONG, LONG.replace(b"a", b"b", 1), -7),
    ("same", SAMPLE, b'{"d":{"e":true},"c":"\\u000A","a":[1,{"b":null}]}', 1), ("same", SAMPLE, b"{}", 0), ("same", SAMPLE[:-1], b"{}", -3),
    ("same", SAMPLE, b"", -4)]


def answer(name, t, p):
    return getattr(documents, name)(Unchanging(t), Unchanging(p))


def wanted_numbers(wanted):
    return [len(wanted)] + list(wanted) if isinstance(wanted, bytes) else [wanted]


def answer_alone(name, t, p):
    """What is answered by a program that has just begun."""
    code = (f"import json, sys; from patchwords.documents import {name}; t, p = json.load(sys.stdin); "
            f"json.dump({name}(t, p), sys.stdout)")
    root = pathlib.Path(documents.__file__).resolve().parent.parent
    run = subprocess.run([sys.executable, "-B", "-c", code], input=json.dumps([list(t), list(p)]), cwd=root, capture_output=True, text=True,
                         check=True)
    return json.loads(run.stdout)


def kept_values():
    """All that the package's files hold at their tops, as a text."""
    modules = {name: module for name, module in sys.modules.items() if name.split(".")[0] == "patchwords"}
    return {(name, key): repr(value) for name, module in sorted(modules.items()) for key, value in vars(module).items()
            if not key.startswith("__")}


class OneAfterAnother(unittest.TestCase):
    def test_each(self):
        for name, t, p, wanted in CALLS:
            with self.subTest(name=name, t=t[:60], p=p[:60]):
                self.assertEqual(answer(name, t, p), wanted_numbers(wanted))

    def test_as_alone_after_any_other(self):
        alone = [answer_alone(*call[:3]) for call in CALLS]
        for (place, one), other in itertools.product(enumerate(CALLS), CALLS):
            answer(*other[:3])
            self.assertEqual(answer(*one[:3]), alone[place], f"{one[0]} after {other[0]}")

    def test_twice(self):
        for call in CALLS:
            self.assertEqual(answer(*call[:3]), answer(*call[:3]), call[0])

    def test_nothing_is_kept_at_a_files_top(self):
        before = kept_values()
        for call in CALLS:
            answer(*call[:3])
        self.assertEqual(kept_values(), before)
        self.assertGreater(len(before), 50)


class Interface(unittest.TestCase):
    def test_names_and_arguments(self):
        for name in NAMES:
            call = getattr(documents, name)
            self.assertEqual(list(inspect.signature(call).parameters), ["t", "p"])
            self.assertIs(type(call(p=[49], t=[49])), list)

    def test_lists_of_whole_numbers(self):
        for call in CALLS:
            found = answer(*call[:3])
            self.assertIs(type(found), list)
            self.assertEqual({type(number) for number in found}, {int})
            self.assertLess(len(found), 1000000)


class WhichIsTold(unittest.TestCase):
    """Wrong in each way that a call has, alone and together with each that is told behind it."""

    RIGHT = (b"1", b"{}", SAMPLE, DEEP, LONG)
    # For each call what p is if it isn't what it's to be; nearly all of these are what another call takes.
    WRONG = {"at": (b"a", b"/~", b"[]", b"{}", b"1", b" ", b"/x/~2", write(CANNOT)),
             "patch": (b"", b"/a", b"{}", b"1", b"[1]", write(CANNOT + [{}]), write(TOO_DEEP + [1]), write(CANNOT + [add("x", 1)]), nested(35)),
             "merge": (b"", b"/a", b"{", b"01", b'{"a":1,"a":2}', nested(33), LONG[:-1], b'"\xff"'),
             "same": (b"", b"/a", b"{", b"01", b'{"a":1,"a":2}', nested(33), LONG[:-1], b'"\xff"')}
    GOOD = {"at": (b"", b"/x", b"/\xff", b"/0/0"), "patch": (b"[]", write(CANNOT), write(TOO_DEEP), write([replace("", 1)])),
            "merge": (b"1", b"{}", LONG.replace(b"a", b"b", 1)), "same": (b"1", b"{}", LONG)}

    def test_t_first(self):
        for name in NAMES:
            for t, p in itertools.product(WRONG_DOCUMENTS, self.WRONG[name] + self.GOOD[name]):
                self.assertEqual(answer(name, t, p), [-3], (name, t[:60], p[:60]))

    def test_then_p(self):
        for name in NAMES:
            for t, p in itertools.product(self.RIGHT, self.WRONG[name]):
                self.assertEqual(answer(name, t, p), [-4], (name, t[:60], p[:60]))

    def test_then_what_is_done(self):
        for name, t, p, wanted in (
                ("at", b"1", b"/x", -5), ("at", DEEP, b"/0/1", -5), ("patch", b"1", write(CANNOT), -5), ("patch", DEEP, write(TOO_DEEP), -7),
                ("patch", DEEP, write(TOO_DEEP + CANNOT), -7), ("patch", DEEP, write(CANNOT + TOO_DEEP), -5),
                ("patch", DEEP, write(TOO_DEEP[:1] + CANNOT + TOO_DEEP[1:]), -5), ("merge", LONG, LONG.replace(b"a", b"b", 1), -7)):
            self.assertEqual(answer(name, t, p), [wanted], (name, t[:60], p[:60]))

    # Each takes p as its own: what is right for one is wrong for others.
    def test_p_is_what_each_call_says(self):
        t = b'{"a":1}'
        deepest = b'[{"op":"add","path":"","value":' + DEEP + b"}]"
        for p, *wanted in ((b"", t, -4, -4, -4), (b"/a", b"1", -4, -4, -4), (b"[]", -4, t, b"[]", 0), (t, -4, -4, t, 1), (b'""', -4, -4, b'""', 0),
                           (deepest, -4, DEEP, -4, -4), (nested(34), -4, -4, -4, -4), (DEEP, -4, -4, DEEP, 0)):
            self.assertEqual([answer(name, t, p) for name in NAMES], [wanted_numbers(one) for one in wanted], p[:60])


class BesideOneAnother(unittest.TestCase):
    """What one call answers, told by another."""

    VALUES = (b"null", b"true", b"1", b"0", b'""', b'"\\n\\u00e9"', b"[]", b"{}", b"[1,{}]",
              b'{"a":1,"b":[null]}', b'{ "b" : [null], "a" : 1 }', SAMPLE, DEEP)

    def test_same_as_an_operation_tells_it(self):
        for t, p in itertools.product(self.VALUES, self.VALUES):
            done = patch(list(t), list(b'[{"op":"test","path":"","value":' + p + b"}]"))
            self.assertEqual(same(list(t), list(p)), [0] if done == [-5] else [1])

    def test_all_of_a_document(self):
        for t in self.VALUES:
            whole = at(list(t), [])
            self.assertEqual(patch(list(t), list(b"[]")), whole)
            self.assertEqual(patch([49], list(b'[{"op":"add","path":"","value":' + t + b"}]")), whole)
            self.assertEqual(same(list(t), whole[1:]), [1])
            self.assertEqual(at(whole[1:], []), whole)

    def test_merged_with_anything_else(self):
        for t, p in itertools.product(self.VALUES, self.VALUES):
            if b"{" not in p[:1]:
                self.assertEqual(merge(list(t), list(p)), at(list(p), []))

    def test_merged_by_operations(self):
        t, p = b'{"a":1,"b":{"c":2,"d":3},"e":[1]}', b'{"b":{"d":null,"f":4},"a":null,"e":{"g":null},"h":5}'
        rows = [remove("/b/d"), add("/b/f", 4), remove("/a"), replace("/e", {}), add("/h", 5)]
        self.assertEqual(merge(list(t), list(p)), patch(list(t), list(write(rows))))


if __name__ == "__main__":
    unittest.main()
