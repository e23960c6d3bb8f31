"""Promise 2, patch: what makes a document too large, and inputs of the greatest length."""
import unittest

from asking import TOO_LARGE, nested, write
from patching import NOT_DONE, Patched, add, copy, move, remove, replace, tested

MOST = 262144
CANNOT = remove("/nowhere")

TEXT = b'"' + b"a" * 65532 + b'"'
# Four of the texts in a list leave three bytes of the most.
FOUR = [copy("/0", "/-")] * 3
FOUR_WRITTEN = b"[" + b",".join([TEXT] * 4) + b"]"


class Bytes(Patched):
    T = b"[" + TEXT + b"]"

    def test_exactly_the_most(self):
        almost = FOUR_WRITTEN[:-1]
        self.assertEqual(len(FOUR_WRITTEN), MOST - 3)
        self.check_all(self.T, [
            (FOUR, FOUR_WRITTEN), (FOUR + [add("/-", 1)], almost + b",1]"), (FOUR + [add("/-", 12)], almost + b",12]"),
            (FOUR + [add("/-", 123)], TOO_LARGE), (FOUR + [add("/-", -12)], TOO_LARGE),
            (FOUR + [add("/0", [])], b"[[]," + almost[1:] + b"]"), (FOUR + [add("/0", [1])], TOO_LARGE),
            (FOUR + [add("/4", "")], almost + b',""]'), (FOUR + [add("/4", "\u00e9")], TOO_LARGE),
            (FOUR + [add("/-", 1), add("/-", 1)], TOO_LARGE), (FOUR + [copy("/0", "/-")], TOO_LARGE)])

    def test_replaced(self):
        full = FOUR + [add("/-", 12)]
        almost = FOUR_WRITTEN[:-1]
        self.check_all(self.T, [
            (full + [replace("/4", 34)], almost + b",34]"), (full + [replace("/4", "")], almost + b',""]'),
            (full + [replace("/4", 345)], TOO_LARGE), (full + [replace("/4", 3), replace("/4", 34)], almost + b",34]"),
            (full + [replace("/0", "c" * 60000)], FOUR_WRITTEN.replace(TEXT, b'"' + b"c" * 60000 + b'"', 1)[:-1] + b",12]"),
            (full + [replace("/4", 3), replace("/4", 345)], TOO_LARGE),
            (full + [remove("/4"), add("/4", 34)], almost + b",34]"), (full + [remove("/4"), add("/4", 345)], TOO_LARGE),
            (full + [replace("/0", 1), add("/-", 2)], b"[1" + FOUR_WRITTEN[1 + len(TEXT):-1] + b",12,2]"),
            (full + [tested("/4", 12), move("/4", "/0")], b"[12," + FOUR_WRITTEN[1:])])

    def four_members(self):
        t = b'{"a":"' + b"a" * 65500 + b'"}'
        grow = [copy("/a", "/b"), copy("/a", "/c"), copy("/a", "/d")]
        members = [b'"%s":%s' % (name, t[5:-1]) for name in (b"a", b"b", b"c", b"d")]
        return t, grow, members, MOST - len(b"{" + b",".join(members) + b"}")

    def test_members(self):
        t, grow, members, left = self.four_members()
        almost = b"{" + b",".join(members)
        name = "n" * (left - len(b',"":1'))
        self.check_all(t, [
            (grow, almost + b"}"), (grow + [add("/" + name, 1)], almost + b',"' + name.encode() + b'":1}'),
            (grow + [add("/" + name, 12)], TOO_LARGE), (grow + [add("/" + name + "n", 1)], TOO_LARGE),
            (grow + [add("/" + name[:-6] + "\n", 1)], almost + b',"' + name[:-6].encode() + b'\\u000a":1}'),
            (grow + [add("/" + name[:-5] + "\n", 1)], TOO_LARGE), (grow + [add("/" + name[:-1] + "\\", 1)], TOO_LARGE),
            (grow + [add("/" + name[:-1] + "~0", 1)], almost + b',"' + name[:-1].encode() + b'~":1}'),
            (grow + [add("/" + name, 1), remove("/" + name), add("/" + name, 2)], almost + b',"' + name.encode() + b'":2}'),
            (grow + [add("/" + name, 1), remove("/" + name), add("/" + name, 12)], TOO_LARGE)])

    def test_moved_to_a_longer_name(self):
        t, grow, members, left = self.four_members()
        last = "x" * (left - len(b',"e":""'))
        grow = grow + [add("/e", last)]
        members = members + [b'"e":"' + last.encode() + b'"']
        full = b"{" + b",".join(members) + b"}"
        self.assertEqual(len(full), MOST)
        self.check_all(t, [
            (grow, full), (grow + [move("/a", "/f")], b"{" + b",".join(members[1:] + [b'"f"' + members[0][3:]]) + b"}"),
            (grow + [move("/a", "/ff")], TOO_LARGE), (grow + [move("/a", "/\n")], TOO_LARGE), (grow + [move("/a", "/a")], full),
            (grow + [move("/a", "")], members[0][4:]), (grow + [move("/a", "/b")], b"{" + b",".join(members[1:]) + b"}"),
            (grow + [remove("/e"), move("/a", "/ff")], b"{" + b",".join(members[1:4] + [b'"ff"' + members[0][3:]]) + b"}")])

    def test_counted_as_written(self):
        t = b'{"a":"' + b"\\n" * 21844 + b'"}'
        size = 2 + 4 + 2 + 6 * 21844
        self.assertEqual(size, 131072)
        text = b'"' + b"\\u000a" * 21844 + b'"'
        self.check(t, copy("/a", "/b"), b'{"a":' + text + b',"b":' + text + b"}")
        self.check(t, [copy("/a", "/b"), add("/c", 1)], TOO_LARGE)
        # 2 * 131072 less a { and a }, with one comma.
        self.check(t, copy("/a", "/bb"), b'{"a":' + text + b',"bb":' + text + b"}")
        self.check(t, copy("/a", "/bbb"), TOO_LARGE)

    def test_copies_that_double_it(self):
        t = b"[1]"
        size = 3
        rows = []
        value = [1]
        while 2 * size + 1 <= MOST:
            rows.append(copy("", "/-"))
            value = value + [value]
            size = 2 * size + 1
            if len(rows) <= 6:
                self.check(t, rows, write(value))
        self.assertEqual(size, MOST - 1)
        self.check(t, rows, write(value))
        self.check(t, rows + [copy("", "/-")], TOO_LARGE)
        self.check(t, rows + [copy("/0", "/-")], TOO_LARGE)
        self.check(t, rows + [replace("/0", 12)], b"[12" + write(value)[2:])
        self.check(t, rows + [replace("/0", 123)], TOO_LARGE)

    def test_long_ago_removed_counts_no_more(self):
        t = b'{"a":"' + b"\\n" * 21800 + b'"}'
        text = b'"' + b"\\u000a" * 21800 + b'"'
        rows = [copy("/a", "/b"), remove("/b")] * 700
        self.check(t, rows, b'{"a":' + text + b"}")
        self.check(t, rows + [copy("/a", "/b")], b'{"a":' + text + b',"b":' + text + b"}")
        self.check(t, [copy("/a", "/b"), add("", 1)], b"1")
        self.check(t, [copy("/a", "/b")] + [copy("/a", "/b")] * 100 + [copy("/b", "")], text)
        self.check(t, [copy("/a", "/b"), remove("/a"), copy("/b", "/a"), copy("/b", "/c")], TOO_LARGE)


class Depth(Patched):
    def put_deep(self, deep):
        """32 lists, and in the innermost one so many more; of what is added no value is deeper than 32."""
        t = b"[" * 32 + b"]" * 32
        p = b'[{"op":"add","path":"' + b"/0" * 31 + b'/-","value":' + b"[" * deep + b"]" * deep + b"}]"
        return t, p

    def test_sixty_four_by_what_is_added(self):
        t, p = self.put_deep(32)
        self.check(t, p, b"[" * 64 + b"]" * 64)
        deeper = b'{"op":"add","path":"' + b"/0" * 63 + b'/-","value":'
        self.check(t, p[:-1] + b"," + deeper + b"1}]", b"[" * 64 + b"1" + b"]" * 64)
        self.check(t, p[:-1] + b"," + deeper + b'"a"}]', b"[" * 64 + b'"a"' + b"]" * 64)
        for value in (b"[]", b"{}", b"[[]]", b'{"a":1}'):
            self.check(t, p[:-1] + b"," + deeper + value + b"}]", TOO_LARGE)

    def test_sixty_five_by_what_is_added(self):
        for t, path in ((b"[" * 32 + b"]" * 32, b"/0" * 31 + b"/0"), (b'{"a":' * 31 + b"{}" + b"}" * 31, b"/a" * 31 + b"/a")):
            p = b'[{"op":"add","path":"' + path + b'","value":[]},{"op":"add","path":"' + path + b'/0","value":%s}]'
            self.check(t, p % nested(31), self.inside(t, b"[" + nested(31) + b"]"))
            self.check(t, p % nested(32), TOO_LARGE)
            self.check(t, p % nested(32, b"{}"), TOO_LARGE)

    def inside(self, t, value):
        """t with a value put into its innermost, empty, list or members."""
        if b"[]" in t:
            return t.replace(b"[]", b"[" + value + b"]")
        return t.replace(b"{}", b'{"a":' + value + b"}")

    def test_by_copies(self):
        t = b'{"a":' + b"[" * 31 + b"]" * 31 + b"}"
        inner = "/a" + "/0" * 30
        twice = b'{"a":' + b"[" * 62 + b"]" * 62 + b"}"
        self.check(t, copy("/a", inner + "/0"), twice)
        # Once more: 62 lists in the members are 63 deep, so one more may stand in the innermost.
        innermost = "/a" + "/0" * 61 + "/0"
        self.check(t, [copy("/a", inner + "/0"), copy(inner + "/0" * 31, innermost)], b'{"a":' + b"[" * 63 + b"]" * 63 + b"}")
        self.check(t, [copy("/a", inner + "/0"), copy(inner + "/0" * 30, innermost)], TOO_LARGE)
        self.check(t, copy("", inner + "/0"), b'{"a":' + b"[" * 31 + t + b"]" * 31 + b"}")
        self.check(t, [copy("", inner + "/0"), copy("", inner + "/0")], TOO_LARGE)
        self.check(t, [copy("", inner + "/0"), copy("", "/b")], TOO_LARGE)

    def test_by_moves(self):
        t = b'{"a":' + b"[" * 31 + b"]" * 31 + b',"b":' + b"[" * 31 + b"]" * 31 + b"}"
        inner = "/0" * 30 + "/-"
        moved = [move("/b", "/a" + inner)]
        self.check(t, moved, b'{"a":' + b"[" * 62 + b"]" * 62 + b"}")
        self.check(t, [add("/c", [])] + moved + [move("/c", "/a" + "/0" * 61 + "/-")], b'{"a":' + b"[" * 63 + b"]" * 63 + b"}")
        self.check(t, [add("/c", [[]])] + moved + [move("/c", "/a" + "/0" * 61 + "/-")], TOO_LARGE)
        self.check(t, [add("/c", {"d": 1})] + moved + [move("/c/d", "/a" + "/0" * 61 + "/-")],
                   b'{"a":' + b"[" * 62 + b"1" + b"]" * 62 + b',"c":{}}')

    def test_by_replacing(self):
        t, p = self.put_deep(32)
        deepest = b"/0" * 63
        self.check(t, p[:-1] + b',{"op":"replace","path":"' + deepest + b'","value":{"a":1}}]', b"[" * 63 + b'{"a":1}' + b"]" * 63)
        self.check(t, p[:-1] + b',{"op":"replace","path":"' + deepest + b'","value":[{}]}]', TOO_LARGE)
        self.check(t, p[:-1] + b',{"op":"replace","path":"' + deepest + b'","value":1},{"op":"replace","path":"' + deepest +
                   b'","value":[2]}]', b"[" * 64 + b"2" + b"]" * 64)

    def test_what_was_deep_once_counts_no_more(self):
        t, p = self.put_deep(32)
        out = b',{"op":"remove","path":"' + b"/0" * 32 + b'"}'
        self.check(t, p[:-1] + out + b"," + p[1:], b"[" * 64 + b"]" * 64)
        self.check(t, p[:-1] + out + b',{"op":"copy","from":"","path":"' + b"/0" * 31 + b'/-"}]', b"[" * 64 + b"]" * 64)
        self.check(t, p[:-1] + b',{"op":"copy","from":"","path":"/-"}]', TOO_LARGE)
        self.check(t, p[:-1] + b',{"op":"replace","path":"' + b"/0" * 32 + b'","value":1},{"op":"copy","from":"","path":"/-"}]',
                   b"[" * 32 + b"1" + b"]" * 31 + b"," + b"[" * 32 + b"1" + b"]" * 32 + b"]")

    def test_beside_one_another(self):
        t = b"[" + nested(31) + b"," + nested(31) + b"]"
        self.check(t, [copy("/0", "/-")] * 40, b"[" + b",".join([nested(31)] * 42) + b"]")


class WhichIsFirst(Patched):
    T = b'{"a":"' + b"\\n" * 21844 + b'","k":[]}'
    LARGE = copy("/a", "/b")

    def test_the_first_that_is_wrong(self):
        self.check_all(self.T, [
            ([self.LARGE], TOO_LARGE), ([CANNOT], NOT_DONE), ([self.LARGE, CANNOT], TOO_LARGE), ([CANNOT, self.LARGE], NOT_DONE),
            ([add("/k/-", 1), self.LARGE, CANNOT], TOO_LARGE), ([add("/k/-", 1), CANNOT, self.LARGE], NOT_DONE),
            ([self.LARGE, tested("", 1)], TOO_LARGE), ([tested("", 1), self.LARGE], NOT_DONE),
            ([self.LARGE, remove("")], TOO_LARGE), ([remove(""), self.LARGE], NOT_DONE)])

    def test_made_smaller_later(self):
        self.check_refused(self.T, [[self.LARGE, remove("/b")], [self.LARGE, remove("/a")], [self.LARGE, replace("", 1)],
                                    [self.LARGE, add("", 1)], [self.LARGE, move("/k", "")], [self.LARGE, replace("/a", 1)]], TOO_LARGE)

    def test_made_smaller_before(self):
        text = b'"' + b"\\u000a" * 21844 + b'"'
        self.check(self.T, [remove("/k"), self.LARGE], b'{"a":' + text + b',"b":' + text + b"}")

    def test_depth_made_less_later(self):
        t = b"[" * 32 + b"]" * 32
        rows = [copy("", "/0" * 31 + "/-"), copy("/0", "/0" * 63 + "/-")]
        self.check(t, rows[:1], b"[" * 64 + b"]" * 64)
        self.check(t, rows, TOO_LARGE)
        self.check(t, rows + [remove("/0")], TOO_LARGE)
        self.check(t, rows + [CANNOT], TOO_LARGE)
        self.check(t, [CANNOT] + rows, NOT_DONE)

    def test_one_that_cannot_be_done_though_it_would_be_too_large(self):
        self.check_refused(self.T, [copy("/a", "/x/y"), copy("/a", "/k/5"), copy("/a", "/a/b"), move("/a", "/a/b"), move("", "/b"),
                                    copy("", "/k/01")], NOT_DONE)


class GreatestLength(Patched):
    def test_document(self):
        t = b"[" + b"1," * 32766 + b"23]"
        self.assertEqual(len(t), 65536)
        self.check_all(t, [([], t), (remove("/32766"), t[:-4] + b"]"), (add("/32767", 4), t[:-1] + b",4]"),
                           (add("/-", 4), t[:-1] + b",4]"), (add("/32768", 4), NOT_DONE), (remove("/32767"), NOT_DONE),
                           (move("/32766", "/0"), b"[23," + t[1:-4] + b"]"), (replace("/0", 5), b"[5" + t[2:])])
        self.check(t, copy("", "/-"), t[:-1] + b"," + t + b"]")
        self.check(t, [copy("", "/-"), copy("", "/-")], TOO_LARGE)

    def test_a_value_and_a_test(self):
        value = b"[" + b"1," * 32740 + b"23]"
        p = b'[{"op":"add","path":"/a","value":' + value + b"}]"
        p = p + b" " * (65536 - len(p))
        self.assertEqual(len(p), 65536)
        self.check(b"{}", p, b'{"a":' + value + b"}")
        p = b'[{"op":"test","path":"","value":' + value + b"}]"
        self.check(value, p, value)
        self.check(value[:-3] + b"24]", p, NOT_DONE)

    def test_a_long_path(self):
        name = b"a" * (65536 - len(b'[{"op":"add","path":"/","value":1}]'))
        p = b'[{"op":"add","path":"/' + name + b'","value":1}]'
        self.assertEqual(len(p), 65536)
        self.check(b"{}", p, b'{"' + name + b'":1}')
        self.check(b"[]", p, NOT_DONE)
        self.check(b"[]", p.replace(b"a" * len(name), b"1" * len(name)), NOT_DONE)
        self.check(b"[]", p.replace(b"a" * len(name), b"0" * len(name)), NOT_DONE)
        self.check(b"{}", p.replace(b"a" * len(name), b"/" * len(name)), NOT_DONE)
        self.check(b"[1]", b'[{"op":"move","from":"%s","path":"%s"}]' % (b"/0" * 16000, b"/0" * 16001), NOT_DONE)
        self.check(b"{}", b'[{"op":"add","path":"/' + b"~1" * 32000 + b'","value":1}]', b'{"' + b"/" * 32000 + b'":1}')

    def test_many_operations(self):
        rows = [add("/-", 7)] * 1700
        self.check(b"[]", rows, b"[" + b",".join([b"7"] * 1700) + b"]")
        self.check(b"[]", rows + [remove("/0")] * 100, b"[" + b",".join([b"7"] * 1600) + b"]")
        self.check(b"[]", rows + [remove("/1700")], NOT_DONE)
        names = [b"%d" % k for k in range(1500)]
        p = b"[" + b",".join(b'{"op":"add","path":"/%s","value":1}' % name for name in names) + b"]"
        self.check(b"{}", p, b"{" + b",".join(b'"%s":1' % name for name in names) + b"}")

    def test_many_operations_on_a_large_document(self):
        t = b'{"a":[' + b"0," * 32000 + b'0],"b":1}'
        listed = b"[" + b"0," * 32000 + b"0]"
        self.check(t, [copy("/a", "/b")] * 1500, b'{"a":' + listed + b',"b":' + listed + b"}")
        self.check(t, [tested("/a/32000", 0)] * 1500, t)
        self.check(t, [add("/a/0", 0), remove("/a/0")] * 800, t)
        self.check(t, [move("/a", "/c"), move("/c", "/a")] * 700, b'{"b":1,"a":' + listed + b"}")

    def test_operations_without_an_end(self):
        p = (b'[{"op":"add","path":"/-","value":7}' + b',{"op":"add","path":"/-","value":7}' * 2000)[:65536]
        self.check(b"[]", p, -4)


if __name__ == "__main__":
    unittest.main()
