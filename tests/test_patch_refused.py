"""Promise 2, patch: operations that can't be done, what isn't operations, and which refusal is told first."""
import unittest

from asking import NOT_DOCUMENT, TOO_LARGE, nested
from patching import NOT_DONE, NOT_OPERATIONS, Patched, add, copy, move, remove, replace, tested

MEMBERS = b'{"a":1,"b":[1,2],"c":{"d":null}}'
LIST = b"[10,20,30]"
WORDS = ("add", "remove", "replace", "move", "copy", "test")


def at_path(path):
    """Each operation that looks at path alone."""
    return [add(path, 1), remove(path), replace(path, 1), tested(path, 1)]


def where_it_must_be(path):
    """Each operation that asks for something at path."""
    return [remove(path), replace(path, 1), tested(path, 1), move(path, "/z"), copy(path, "/z"), move(path, path), copy(path, path),
            move(path, ""), copy(path, "")]


class CannotBeDone(Patched):
    def test_what_the_other_names_lead_to_is_not_there(self):
        for path in ("/x/y", "/x/0", "/x/-", "/c/x/y", "/b/2/x", "/b/-/x", "/b/00/x", "/b/x/y", "//a", "/x//"):
            self.check_refused(MEMBERS, at_path(path) + [move("/a", path), copy("/a", path)], NOT_DONE)
        for path in ("/3/x", "/-/x", "/00/x", "/a/x", "//x"):
            self.check_refused(LIST, at_path(path) + [move("/0", path), copy("/0", path)], NOT_DONE)

    def test_what_the_other_names_lead_to_holds_nothing(self):
        for value in (b"null", b"true", b"false", b"0", b"12", b'""', b'"abc"'):
            for path in ("/", "/0", "/-", "/a"):
                self.check_refused(value, at_path(path) + [copy("", path), move("", path)], NOT_DONE)
                held = b'{"k":' + value + b',"m":1}'
                self.check_refused(held, at_path("/k" + path) + [copy("/m", "/k" + path), move("/m", "/k" + path)], NOT_DONE)

    def test_places_above_the_length(self):
        for path in ("/4", "/5", "/10", "/4294967296", "/18446744073709551616", "/" + "9" * 300):
            self.check_refused(LIST, at_path(path) + [copy("/0", path), move("/0", path)], NOT_DONE)
        self.check_refused(b"[]", at_path("/1"), NOT_DONE)
        self.check_refused(b'{"a":[]}', [add("/a/1", 1), copy("/a", "/a/1")], NOT_DONE)

    def test_the_length_goes_down_where_it_is_moved(self):
        self.check(LIST, move("/0", "/3"), NOT_DONE)
        self.check(LIST, move("/0", "/2"), b"[20,30,10]")
        self.check(LIST, copy("/0", "/3"), b"[10,20,30,10]")

    def test_behind_all_where_something_must_be(self):
        for path in ("/3", "/-", "/4"):
            self.check_refused(LIST, where_it_must_be(path), NOT_DONE)
            self.check_refused(b'{"k":' + LIST + b"}", where_it_must_be("/k" + path), NOT_DONE)
        for path in ("/0", "/-"):
            self.check_refused(b"[]", where_it_must_be(path), NOT_DONE)

    def test_no_such_member_where_one_must_be(self):
        for path in ("/x", "/", "/A", "/aa", "/a ", "/0", "/-", "/c/a", "/a/", "/~0", "/~1", "/c/"):
            self.check_refused(MEMBERS, where_it_must_be(path), NOT_DONE)
        self.check_refused(b"{}", where_it_must_be("/"), NOT_DONE)

    def test_what_is_not_a_place(self):
        for name in ("00", "01", "000", "03", "010", "-0", "-1", "+1", " 1", "1 ", "", "a", "0x0", "1.0", "1e0", ":", "/", "--", "-/",
                     "~0", "~1", "\u0661", "0\n"):
            path = "/" + name
            self.check_refused(LIST, at_path(path) + [copy("/0", path), move("/0", path), copy(path, "/0"), move(path, "/0")], NOT_DONE)

    def test_remove_of_all(self):
        for t in (b"null", b"1", b'""', b"[]", b"{}", MEMBERS, LIST):
            self.check(t, remove(""), NOT_DONE)

    def test_move_of_all_into_itself(self):
        self.check_refused(MEMBERS, [move("", "/a"), move("", "/x"), move("", "/c/d"), move("", "/")], NOT_DONE)
        self.check_refused(LIST, [move("", "/0"), move("", "/-"), move("", "/9")], NOT_DONE)
        self.check_refused(b"1", [move("", "/0"), move("", "/")], NOT_DONE)

    def test_move_into_itself(self):
        t = b'{"a":{"b":{"c":[0,[1]]},"":{}},"l":[{},{},[]],"~":{}}'
        self.check_refused(t, [
            move("/a", "/a/b"), move("/a", "/a/x"), move("/a", "/a/b/c/0"), move("/a/b", "/a/b/c"), move("/a/b/c", "/a/b/c/-"),
            move("/a", "/a/"), move("/a/", "/a//x"), move("/l/2", "/l/2/0"), move("/l/2", "/l/2/-"), move("/~0", "/~0/x")], NOT_DONE)
        self.check(t, b'[{"op":"move","from":"/~0","path":"/\\u007e0/x"}]', NOT_DONE)

    # The place would lead on to what stood behind it, but the names are what counts.
    def test_move_into_what_stands_behind(self):
        self.check_refused(b"[{},{}]", [move("/0", "/0/a")], NOT_DONE)
        self.check_refused(b'{"l":[[],[],[]]}', [move("/l/0", "/l/0/0"), move("/l/1", "/l/1/-")], NOT_DONE)

    def test_tests_of_what_is_not_the_same(self):
        self.check_refused(MEMBERS, [tested("/a", 2), tested("/a", True), tested("/a", "1"), tested("/b", [2, 1]), tested("/b", [1]),
                                     tested("/c", {}), tested("/c", {"d": 0}), tested("", {}), tested("/c/d", False)], NOT_DONE)

    def test_what_was_there_once(self):
        self.check_refused(MEMBERS, [[remove("/a"), remove("/a")], [move("/a", "/z"), copy("/a", "/y")], [add("", 1), remove("/a")],
                                     [replace("/c", 1), add("/c/e", 1)], [move("/a", "/z"), move("/a", "/a")]], NOT_DONE)


class NotOperations(Patched):
    def refused(self, *texts):
        for p in texts:
            # Whatever the document is, and whatever stands beside: it's told ahead of all that is done.
            self.check(MEMBERS, p, NOT_OPERATIONS)
            self.check(b"1", p, NOT_OPERATIONS)

    def refused_item(self, *texts):
        for text in texts:
            good = b'{"op":"test","path":"","value":1}'
            cannot = b'{"op":"remove","path":"/nowhere"}'
            self.refused(b"[" + text + b"]", b"[" + good + b"," + text + b"]", b"[" + text + b"," + good + b"]",
                         b"[" + cannot + b"," + text + b"]", b"[" + text + b"," + cannot + b"]")

    def test_not_values(self):
        self.refused(b"", b" ", b"[", b"]", b"[}", b"[,]", b"[{]", b"[{}", b"[]]", b"[] []", b"[],", b"x", b"[01]", b"[1.5]", b'["\\x"]',
                     b"[{},]", b'[{"op":"remove","path":"/a"},]', b'[{"op":"remove","path":"/a"}', b'[{"op":"remove","path":"/a",}]',
                     b'[{"op":"remove" "path":"/a"}]', b'{"op":"remove","path":"/a"}]', b'[{"op":"remove","path":"/a"}]x',
                     b"[{'op':'remove','path':'/a'}]", b'[{op:"remove",path:"/a"}]', b'[{"op":"remove","path":"/a\n"}]')

    def test_names_twice(self):
        self.refused_item(b'{"op":"remove","op":"remove","path":"/a"}', b'{"op":"remove","path":"/a","path":"/b"}',
                          b'{"op":"remove","path":"/a","x":1,"x":1}', b'{"op":"remove","path":"/a","\\u0070ath":"/a"}',
                          b'{"op":"add","path":"/a","value":{"x":1,"x":2}}', b'{"op":"add","path":"/a","value":1,"value":1}')

    def test_values_that_are_not(self):
        self.refused_item(*(b'{"op":"add","path":"/a","value":' + value + b"}" for value in (
            b"", b"-0", b"01", b"1.0", b"1e1", b"9223372036854775808", b"-9223372036854775809", b"nul", b'"\\ud800"', b'"\t"', b"[1,]",
            b"{1:1}", b'"\xff"')))
        self.refused_item(*(b'{"op":"remove","path":"/a","x":' + value + b"}" for value in (b"", b"01", b'"\\ud800"', b"1.0")))

    def test_not_utf8(self):
        for wrong in (b"\xff", b"\xc3", b"\xc0\xaf", b"\xed\xa0\x80", b"\xf4\x90\x80\x80", b"\x80", b"\xe2\x82"):
            self.refused(wrong, b"[]" + wrong, wrong + b"[]", b"[" + wrong + b"]")
            self.refused_item(b'{"op":"remove","path":"/' + wrong + b'"}', b'{"op":"add","path":"/a","value":"' + wrong + b'"}',
                              b'{"op":"remove","path":"/a","' + wrong + b'":1}', b'{"op":"' + wrong + b'","path":"/a"}')
        self.refused(b"\xef\xbb\xbf[]")

    def test_not_a_list(self):
        self.refused(b"null", b"true", b"false", b"0", b"-1", b'""', b'"[]"', b"{}", b'{"op":"remove","path":"/a"}',
                     b'{"0":{"op":"remove","path":"/a"}}', b'{"op":"add","path":"/a","value":1}')

    def test_items_that_are_not_members(self):
        self.refused_item(b"null", b"true", b"false", b"0", b"1", b'""', b'"remove"', b"[]", b'["op","remove"]',
                          b'[{"op":"remove","path":"/a"}]', b'[["op","remove"],["path","/a"]]')

    def test_op_is_missing(self):
        self.refused_item(b"{}", b'{"path":"/a"}', b'{"path":"/a","value":1,"from":"/a"}', b'{"OP":"remove","path":"/a"}',
                          b'{"":"remove","path":"/a"}', b'{"op ":"remove","path":"/a"}')

    def test_op_is_not_a_text(self):
        for value in (b"null", b"true", b"0", b"1", b"[]", b'["remove"]', b"{}", b'{"op":"remove"}', b"[97,100,100]"):
            self.refused_item(b'{"op":' + value + b',"path":"/a","value":1,"from":"/a"}')

    def test_op_is_another_word(self):
        for word in (b"", b"Add", b"ADD", b"add ", b" add", b"ad", b"adds", b"removed", b"delete", b"merge", b"same", b"at", b"patch",
                     b"tes", b"testt", b"/add", b"\\u0000", b"add\\u0000", b"\xc3\xa4dd", b"copymove", b"_get"):
            self.refused_item(b'{"op":"' + word + b'","path":"/a","value":1,"from":"/a"}')

    def test_path_is_missing(self):
        for word in WORDS:
            for name in (b"", b'"Path":"/a",', b'"path ":"/a",', b'"pat":"/a",', b'"to":"/a",'):
                self.refused_item(b"{" + name + b'"op":"' + word.encode() + b'","value":1,"from":"/a"}')

    def test_path_is_not_a_text(self):
        for word in WORDS:
            for value in (b"null", b"true", b"0", b"[]", b"{}", b'["/a"]', b'{"":"/a"}', b"[47,97]"):
                self.refused_item(b'{"op":"' + word.encode() + b'","path":' + value + b',"value":1,"from":"/a"}')

    def test_path_is_not_a_pointer(self):
        for word in WORDS:
            for pointer in (b"a", b" ", b"0", b"-", b"a/", b" /a", b"#", b"#/a", b"~0", b"~1", b"/~", b"/a~", b"/~2", b"/~~0", b"/~/", b"/a/~x",
                            b"/a/~", b"/\\u007e", b"\\u0000", b"\\\\/a", b"/x/y/~", b"/~a"):
                self.refused_item(b'{"op":"' + word.encode() + b'","path":"' + pointer + b'","value":1,"from":"/a"}')

    def test_from_is_missing(self):
        for word in (b"move", b"copy"):
            for more in (b"", b',"From":"/a"', b',"value":"/a"', b',"from ":"/a"', b',"":"/a"'):
                self.refused_item(b'{"op":"' + word + b'","path":"/z"' + more + b"}", b'{"op":"' + word + b'","path":"/a"' + more + b"}",
                                  b'{"op":"' + word + b'","path":""' + more + b"}")

    def test_from_is_not_a_text(self):
        for word in (b"move", b"copy"):
            for value in (b"null", b"false", b"0", b"[]", b"{}", b'["/a"]', b"[47,97]"):
                self.refused_item(b'{"op":"' + word + b'","path":"/z","from":' + value + b"}")

    def test_from_is_not_a_pointer(self):
        for word in (b"move", b"copy"):
            for pointer in (b"a", b" ", b"a/", b"#/a", b"~1", b"/~", b"/~2", b"/a~", b"/~/", b"/x/~~1", b"\\u007e1"):
                self.refused_item(b'{"op":"' + word + b'","path":"/z","from":"' + pointer + b'"}')

    def test_value_is_missing(self):
        for word in (b"add", b"replace", b"test"):
            for more in (b"", b',"Value":1', b',"from":"/a"', b',"value ":1', b',"val":1', b',"":1'):
                self.refused_item(b'{"op":"' + word + b'","path":"/a"' + more + b"}", b'{"op":"' + word + b'","path":""' + more + b"}")

    def test_value_null_is_a_value(self):
        self.check(b'{"a":1}', [add("/b", None), replace("/a", None), tested("/a", None)], b'{"a":null,"b":null}')

    def test_what_is_not_needed_may_be_missing(self):
        self.check(b'{"a":1,"b":2}', b'[{"op":"remove","path":"/b"},{"op":"copy","path":"/c","from":"/a"}]', b'{"a":1,"c":1}')


class NestedOperations(Patched):
    def test_thirty_four_deep(self):
        for value in (nested(32), nested(32, b"{}"), b"[" * 32 + b"1" + b"]" * 32, b'{"a":' * 32 + b"null" + b"}" * 32):
            p = b'[{"op":"add","path":"/-","value":' + value + b"}]"
            self.check(b"[]", p, b"[" + value + b"]")
            self.check(b"[]", b'[{"op":"replace","path":"","value":' + value + b"}]", value)
            self.check(value, b'[{"op":"test","path":"","value":' + value + b"}]", value)
            self.check(b"[1]", b'[{"op":"remove","path":"/0","x":' + value + b"}]", b"[]")

    def test_thirty_five_deep(self):
        for value in (nested(33), nested(33, b"{}"), b"[" * 33 + b"1" + b"]" * 33, b'{"a":' * 33 + b"null" + b"}" * 33):
            self.check(b"[]", b'[{"op":"add","path":"/-","value":' + value + b"}]", NOT_OPERATIONS)
            self.check(b"[]", b'[{"op":"replace","path":"","value":' + value + b"}]", NOT_OPERATIONS)
            self.check(b"[1]", b'[{"op":"test","path":"","value":' + value + b"}]", NOT_OPERATIONS)
            self.check(b"[1]", b'[{"op":"remove","path":"/0","x":' + value + b"}]", NOT_OPERATIONS)
            self.check(b"[1]", b'[{"op":"remove","path":"/9"},{"op":"remove","path":"/0","x":' + value + b"}]", NOT_OPERATIONS)

    def test_a_document_stays_at_thirty_two(self):
        for deep in (33, 34):
            self.check(nested(deep), b"[]", NOT_DOCUMENT)
        self.check(nested(32), b"[]", nested(32))

    def test_open_brackets_alone(self):
        for p in (b"[" * 65536, b'[{"":' * 13107, b"[" * 32768 + b"]" * 32768, b"[" * 35 + b"]" * 35, b"[" * 34 + b"]" * 34):
            self.check(b"1", p, NOT_OPERATIONS)


class WhichIsTold(Patched):
    WRONG = (b"", b"{}", b"[1]", b'[{"op":"x"}]', b'[{"op":"remove","path":"a"}]', b"\xff", b"[" * 35 + b"]" * 35)

    def test_document_ahead_of_operations(self):
        for t in (b"", b" ", b"[", b"01", b"[1,]", b'"\xff"', b"1 1", nested(33), b'{"a":1,"a":1}'):
            for p in self.WRONG + (b"[]", b'[{"op":"remove","path":""}]', b'[{"op":"add","path":"","value":1}]'):
                self.check(t, p, NOT_DOCUMENT)

    def test_operations_ahead_of_what_cannot_be_done(self):
        cannot = b'{"op":"remove","path":""}'
        for wrong in (b"1", b"{}", b'{"op":"add","path":"/a"}', b'{"op":"remove","path":"a"}', b'{"op":"move","path":"","from":"~"}'):
            self.check(b"1", b"[" + cannot + b"," + wrong + b"]", NOT_OPERATIONS)
            self.check(b"1", b"[" + wrong + b"," + cannot + b"]", NOT_OPERATIONS)
            self.check(b"1", b"[" + b",".join([cannot] * 50 + [wrong]) + b"]", NOT_OPERATIONS)

    def test_operations_ahead_of_too_large(self):
        t = b'{"a":"' + b"\\n" * 30000 + b'"}'
        large = [copy("/a", "/b")]
        self.check(t, large, TOO_LARGE)
        for wrong in (1, {}, {"op": "add", "path": "/c"}, remove("c")):
            self.check(t, large + [wrong], NOT_OPERATIONS)
            self.check(t, [wrong] + large, NOT_OPERATIONS)


if __name__ == "__main__":
    unittest.main()
