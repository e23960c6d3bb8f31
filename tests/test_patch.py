"""Promise 2, patch: what the operations do where they can be done, and what the call itself is held to."""
import unittest

from keeping import Keeping
from patching import NOT_DONE, Patched, add, copy, move, remove, replace, tested
from patchwords.documents import patch

MEMBERS = b'{"a":1,"b":2,"c":3}'
LIST = b"[10,20,30]"
DEEP = b'{"a":[0,{"b":{"c":[1,2,{"d":"e"}]}}],"z":null}'


class TheForm(Keeping, unittest.TestCase):
    CALLS = [
        (DEEP, b"[]"), (MEMBERS, b'[{"op":"remove","path":"/a"}]'), (MEMBERS, b'[{"op":"copy","from":"","path":"/a"}]'),
        (LIST, b'[{"op":"move","from":"/0","path":"/-"},{"op":"add","path":"/0","value":[{"x":[]}]}]'),
        (LIST, b'[{"op":"add","path":"/0","value":1},{"op":"remove","path":"/9"}]'), (LIST, b"[1]"), (b"[", b"[]"),
        (b"[]", b'[{"op":"add","path":"/-","value":{}},{"op":"add","path":"/0/a","value":1}]')]

    def call(self, t, p):
        return patch(t, p)

    def test_answer_is_length_then_bytes(self):
        p = b'[{"op":"add","path":"/0","value":1}]'
        self.assertEqual(patch([91, 32, 50, 93], list(p)), [5, 91, 49, 44, 50, 93])
        self.assertEqual(patch([32, 49], [91, 93]), [1, 49])

    def test_refusals_stand_alone(self):
        self.assertEqual(patch([], [91, 93]), [-3])
        self.assertEqual(patch([49], []), [-4])
        self.assertEqual(patch([49], list(b'[{"op":"remove","path":""}]')), [-5])


class ReadAndWritten(Patched):
    def test_no_operations(self):
        for p in (b"[]", b" [ ] ", b"\t[\n\r]"):
            self.check(b' { "b" : [ 1 , "\\n\\/\\u00e9" ] , "a" : { } } ', p, b'{"b":[1,"\\u000a/\xc3\xa9"],"a":{}}')
            for value in (b"null", b"true", b"false", b"-7", b'""', b"[]", b"{}"):
                self.check(value, p, value)

    def test_values_are_written(self):
        self.check(b"[ ]", b' [ { "op" : "add" , "path" : "/-" , "value" : { "b" : [ 1 , "\\t\\u0041" ] , "a" : null } } ] ',
                   b'[{"b":[1,"\\u0009A"],"a":null}]')

    def test_names_are_written(self):
        self.check(b"{}", [add('/"\\\n\u00e9~0~1', 1)], b'{"\\"\\\\\\u000a\xc3\xa9~/":1}')

    def test_other_members_are_not_looked_at(self):
        for more in (b'"x":1', b'"from":1', b'"from":"wrong"', b'"from":"/~"', b'"":null', b'"OP":"remove"', b'"Path":"/b"',
                     b'"value ":0', b'"x":{"op":"remove","path":"a"}'):
            self.check(b"{}", b'[{"op":"add","path":"/a","value":5,' + more + b"}]", b'{"a":5}')
            self.check(b"{}", b"[{" + more + b',"op":"add","path":"/a","value":5}]', b'{"a":5}')
            self.check(b'{"a":1}', b'[{"op":"replace","path":"/a","value":5,' + more + b"}]", b'{"a":5}')
            self.check(b'{"a":5}', b'[{"op":"test","path":"/a","value":5,' + more + b"}]", b'{"a":5}')
            self.check(b'{"a":5,"b":6}', b'[{"op":"remove","path":"/b",' + more + b"}]", b'{"a":5}')
        for more in (b'"value":1', b'"value":"/~"', b'"x":[]', b'"form":1'):
            self.check(b'{"a":5}', b'[{"op":"copy","from":"/a","path":"/b",' + more + b"}]", b'{"a":5,"b":5}')
            self.check(b'{"a":5}', b'[{' + more + b',"op":"move","from":"/a","path":"/b"}]', b'{"b":5}')
            self.check(b'{"a":5}', b'[{' + more + b',"op":"remove","path":"/a"}]', b"{}")

    def test_members_in_any_order(self):
        for p in (b'[{"value":5,"path":"/a","op":"add"}]', b'[{"path":"/a","op":"add","value":5}]',
                  b'[{"value":5,"op":"add","path":"/a"}]', b'[{"path":"/a","value":5,"op":"replace"}]'):
            self.check(b'{"a":1,"b":2}', p, b'{"a":5,"b":2}')
        for p in (b'[{"path":"/b","from":"/a","op":"move"}]', b'[{"path":"/b","op":"move","from":"/a"}]',
                  b'[{"from":"/a","path":"/b","op":"move"}]', b'[{"op":"move","path":"/b","from":"/a"}]'):
            self.check(b'{"a":1,"b":2}', p, b'{"b":1}')

    def test_members_written_with_backslashes(self):
        self.check(b"{}", b'[{"\\u006fp":"\\u0061dd","p\\u0061th":"\\/a\\u007e1b","v\\u0061lue":1}]', b'{"a/b":1}')
        self.check(b'{"a":1}', b'[{"op":"mov\\u0065","fr\\u006Fm":"\\u002fa","path":"/\\ud83d\\ude00"}]',
                   b'{"\xf0\x9f\x98\x80":1}')


class Adding(Patched):
    def test_all_of_the_document(self):
        for t in (b"1", b"null", LIST, MEMBERS):
            for value, wanted in ((5, b"5"), (None, b"null"), ([1], b"[1]"), ({"x": {}}, b'{"x":{}}'), ("", b'""')):
                self.check(t, add("", value), wanted)

    def test_members(self):
        self.check_all(MEMBERS, [
            (add("/d", 4), b'{"a":1,"b":2,"c":3,"d":4}'), (add("/a", 4), b'{"a":4,"b":2,"c":3}'),
            (add("/b", [4]), b'{"a":1,"b":[4],"c":3}'), (add("/c", None), b'{"a":1,"b":2,"c":null}'),
            (add("/", 4), b'{"a":1,"b":2,"c":3,"":4}'), (add("/0", 4), b'{"a":1,"b":2,"c":3,"0":4}'),
            (add("/-", 4), b'{"a":1,"b":2,"c":3,"-":4}'), (add("/01", 4), b'{"a":1,"b":2,"c":3,"01":4}'),
            (add("/~1", 4), b'{"a":1,"b":2,"c":3,"/":4}'), (add("/~01", 4), b'{"a":1,"b":2,"c":3,"~1":4}')])
        self.check(b"{}", add("/a", {}), b'{"a":{}}')
        self.check(b'{"":1}', add("/", 2), b'{"":2}')
        self.check(b'{"-":1,"a":2}', add("/-", 3), b'{"-":3,"a":2}')

    def test_lists(self):
        self.check_all(LIST, [
            (add("/0", 1), b"[1,10,20,30]"), (add("/1", 1), b"[10,1,20,30]"), (add("/2", 1), b"[10,20,1,30]"),
            (add("/3", 1), b"[10,20,30,1]"), (add("/-", 1), b"[10,20,30,1]"), (add("/0", [1, 2]), b"[[1,2],10,20,30]")])
        self.check_all(b"[]", [(add("/0", 1), b"[1]"), (add("/-", 1), b"[1]"), (add("/-", []), b"[[]]")])

    def test_places_of_two_digits(self):
        t = b"[0,1,2,3,4,5,6,7,8,9,10]"
        self.check_all(t, [(add("/10", "x"), b'[0,1,2,3,4,5,6,7,8,9,"x",10]'), (add("/11", "x"), b'[0,1,2,3,4,5,6,7,8,9,10,"x"]'),
                           (add("/12", "x"), NOT_DONE)])

    def test_deep_within(self):
        self.check_all(DEEP, [
            (add("/a/1/b/c/2/f", 5), b'{"a":[0,{"b":{"c":[1,2,{"d":"e","f":5}]}}],"z":null}'),
            (add("/a/1/b/c/2/d", 5), b'{"a":[0,{"b":{"c":[1,2,{"d":5}]}}],"z":null}'),
            (add("/a/1/b/c/0", 5), b'{"a":[0,{"b":{"c":[5,1,2,{"d":"e"}]}}],"z":null}'),
            (add("/a/1/b/c/-", 5), b'{"a":[0,{"b":{"c":[1,2,{"d":"e"},5]}}],"z":null}'),
            (add("/a/1", 5), b'{"a":[0,5,{"b":{"c":[1,2,{"d":"e"}]}}],"z":null}'),
            (add("/a", 5), b'{"a":5,"z":null}')])

    def test_into_what_was_added(self):
        self.check(b"{}", [add("/a", []), add("/a/-", {}), add("/a/0/b", 1), add("/a/-", 2)], b'{"a":[{"b":1},2]}')


class Removing(Patched):
    def test_members(self):
        self.check_all(MEMBERS, [(remove("/a"), b'{"b":2,"c":3}'), (remove("/b"), b'{"a":1,"c":3}'),
                                 (remove("/c"), b'{"a":1,"b":2}'), ([remove("/a"), remove("/c"), remove("/b")], b"{}")])
        self.check(b'{"":1,"~":2,"/":3}', [remove("/~0"), remove("/~1")], b'{"":1}')
        self.check(b'{"":1,"~":2}', remove("/"), b'{"~":2}')

    def test_lists(self):
        self.check_all(LIST, [(remove("/0"), b"[20,30]"), (remove("/1"), b"[10,30]"), (remove("/2"), b"[10,20]"),
                              ([remove("/0"), remove("/0"), remove("/0")], b"[]"), ([remove("/1"), remove("/1")], b"[10]")])

    def test_deep_within(self):
        self.check_all(DEEP, [(remove("/a/1/b/c/2/d"), b'{"a":[0,{"b":{"c":[1,2,{}]}}],"z":null}'),
                              (remove("/a/1/b/c/1"), b'{"a":[0,{"b":{"c":[1,{"d":"e"}]}}],"z":null}'),
                              (remove("/a/1/b"), b'{"a":[0,{}],"z":null}'), (remove("/a"), b'{"z":null}')])


class Replacing(Patched):
    def test_all_of_the_document(self):
        for t in (b"1", b"null", LIST, MEMBERS):
            self.check_all(t, [(replace("", {"x": [1]}), b'{"x":[1]}'), (replace("", None), b"null")])

    def test_members(self):
        self.check_all(MEMBERS, [(replace("/a", 4), b'{"a":4,"b":2,"c":3}'), (replace("/b", [4]), b'{"a":1,"b":[4],"c":3}'),
                                 (replace("/c", None), b'{"a":1,"b":2,"c":null}')])

    def test_lists(self):
        self.check_all(LIST, [(replace("/0", 1), b"[1,20,30]"), (replace("/1", []), b"[10,[],30]"),
                              (replace("/2", {}), b"[10,20,{}]")])

    def test_deep_within(self):
        self.check_all(DEEP, [(replace("/a/1/b/c/2/d", 5), b'{"a":[0,{"b":{"c":[1,2,{"d":5}]}}],"z":null}'),
                              (replace("/a/1/b/c/2", 5), b'{"a":[0,{"b":{"c":[1,2,5]}}],"z":null}'),
                              (replace("/a/1", 5), b'{"a":[0,5],"z":null}'), (replace("/z", 5), DEEP.replace(b"null", b"5"))])


class WhereMembersStand(Patched):
    def test_one_that_is_there_keeps_its_place(self):
        for put in (add, replace):
            self.check(MEMBERS, [put("/b", 9), put("/a", 8)], b'{"a":8,"b":9,"c":3}')

    def test_taken_out_and_added_anew(self):
        self.check_all(MEMBERS, [([remove("/a"), add("/a", 1)], b'{"b":2,"c":3,"a":1}'),
                                 ([remove("/b"), add("/d", 4), add("/b", 2)], b'{"a":1,"c":3,"d":4,"b":2}'),
                                 ([add("/d", 4), add("/e", 5), add("/d", 6)], b'{"a":1,"b":2,"c":3,"d":6,"e":5}')])

    def test_moved_onto_another(self):
        self.check_all(MEMBERS, [(move("/a", "/c"), b'{"b":2,"c":1}'), (move("/c", "/a"), b'{"a":3,"b":2}'),
                                 (move("/a", "/b"), b'{"b":1,"c":3}'), (move("/a", "/d"), b'{"b":2,"c":3,"d":1}'),
                                 ([move("/a", "/d"), move("/d", "/a")], b'{"b":2,"c":3,"a":1}')])

    def test_copied_onto_another(self):
        self.check_all(MEMBERS, [(copy("/a", "/c"), b'{"a":1,"b":2,"c":1}'), (copy("/c", "/a"), b'{"a":3,"b":2,"c":3}'),
                                 (copy("/a", "/a"), MEMBERS), (copy("/b", "/d"), b'{"a":1,"b":2,"c":3,"d":2}')])


class Moving(Patched):
    def test_within_one_list(self):
        t = b"[0,1,2,3,4]"
        self.check_all(t, [(move("/0", "/1"), b"[1,0,2,3,4]"), (move("/1", "/0"), b"[1,0,2,3,4]"),
                           (move("/0", "/4"), b"[1,2,3,4,0]"), (move("/4", "/0"), b"[4,0,1,2,3]"),
                           (move("/1", "/3"), b"[0,2,3,1,4]"), (move("/3", "/1"), b"[0,3,1,2,4]"),
                           (move("/1", "/-"), b"[0,2,3,4,1]"), (move("/4", "/-"), t), (move("/0", "/-"), b"[1,2,3,4,0]"),
                           (move("/0", "/5"), NOT_DONE), (move("/4", "/5"), NOT_DONE)])

    def test_between_members_and_lists(self):
        t = b'{"a":[1,2],"b":{"c":[3]},"d":4}'
        self.check_all(t, [
            (move("/d", "/a/0"), b'{"a":[4,1,2],"b":{"c":[3]}}'), (move("/d", "/b/c/-"), b'{"a":[1,2],"b":{"c":[3,4]}}'),
            (move("/b/c", "/a"), b'{"a":[3],"b":{},"d":4}'), (move("/a", "/b/c/1"), b'{"b":{"c":[3,[1,2]]},"d":4}'),
            (move("/a/0", "/b/c/0"), b'{"a":[2],"b":{"c":[1,3]},"d":4}'),
            (move("/b/c/0", "/e"), b'{"a":[1,2],"b":{"c":[]},"d":4,"e":3}'),
            (move("/a/1", "/a/0"), b'{"a":[2,1],"b":{"c":[3]},"d":4}')])

    def test_to_all_of_the_document(self):
        self.check(b'{"a":[1,{"b":2}],"c":3}', move("/a/1", ""), b'{"b":2}')
        self.check(b"[[5]]", [move("/0", ""), move("/0", "")], b"5")

    def test_onto_what_it_lies_in(self):
        self.check(b'{"a":{"b":{"c":1}},"d":2}', move("/a/b", "/a"), b'{"a":{"c":1},"d":2}')
        self.check(b"[[1,2],3]", move("/0/1", "/0"), b"[2,[1],3]")

    def test_path_leads_where_it_does_once_it_is_taken_out(self):
        self.check(b"[0,[1],[2]]", move("/0", "/1/0"), b"[[1],[0,2]]")
        self.check(b"[[1],[2]]", move("/0", "/1/0"), NOT_DONE)
        self.check(b'[{"a":1},{"b":2}]', move("/1", "/0/c"), b'[{"a":1,"c":{"b":2}}]')

    def test_onto_itself(self):
        for t, path in ((b"5", ""), (MEMBERS, ""), (MEMBERS, "/a"), (MEMBERS, "/b"), (MEMBERS, "/c"), (LIST, "/0"), (LIST, "/1"),
                        (LIST, "/2"), (DEEP, "/a/1/b/c/2/d"), (DEEP, "/a/1"), (b'{"~":1,"/":2,"":3}', "/~0"),
                        (b'{"~":1,"/":2,"":3}', "/~1"), (b'{"~":1,"/":2,"":3}', "/")):
            self.check(t, move(path, path), t)
            self.check(t, [move(path, path), move(path, path)], t)

    def test_onto_itself_must_be_there(self):
        for t, path in ((MEMBERS, "/d"), (MEMBERS, "/"), (MEMBERS, "/a/b"), (LIST, "/3"), (LIST, "/-"), (LIST, "/00"), (b"1", "/")):
            self.check(t, move(path, path), NOT_DONE)

    def test_onto_itself_written_in_two_ways(self):
        t = b'{"~":1,"/":2,"~1":3,"a":4}'
        for one, other in ((b"/~0", b"/\\u007e0"), (b"/~1", b"\\/~\\u0031"), (b"/~01", b"/\\u007E01"), (b"/a", b"\\u002f\\u0061")):
            self.check(t, b'[{"op":"move","from":"' + one + b'","path":"' + other + b'"}]', t)
            self.check(t, b'[{"op":"move","from":"' + other + b'","path":"' + one + b'"}]', t)
        self.check(t, move("/~0", "/~1"), b'{"/":1,"~1":3,"a":4}')
        self.check(t, move("/~01", "/~1"), b'{"~":1,"/":3,"a":4}')

    def test_names_that_only_begin_alike(self):
        self.check(b'{"a":1,"ab":{}}', move("/a", "/ab/c"), b'{"ab":{"c":1}}')
        self.check(b'{"a":1,"a/b":{}}', move("/a", "/a~1b/c"), b'{"a/b":{"c":1}}')
        self.check(b"[0,1,2,3,4,5,6,7,8,9,[],11]", move("/1", "/10"), b"[0,2,3,4,5,6,7,8,9,[],1,11]")
        self.check(b'{"":1,"a":{}}', move("/", "/a/b"), b'{"a":{"b":1}}')


class Copying(Patched):
    def test_members_and_lists(self):
        self.check_all(b'{"a":[1,{"b":2}],"c":3}', [
            (copy("/a/1", "/d"), b'{"a":[1,{"b":2}],"c":3,"d":{"b":2}}'), (copy("/a", "/c"), b'{"a":[1,{"b":2}],"c":[1,{"b":2}]}'),
            (copy("/c", "/a/0"), b'{"a":[3,1,{"b":2}],"c":3}'), (copy("/c", "/a/-"), b'{"a":[1,{"b":2},3],"c":3}'),
            (copy("/c", "/a/1/b"), b'{"a":[1,{"b":3}],"c":3}'), (copy("/a/0", "/a/0"), b'{"a":[1,1,{"b":2}],"c":3}'),
            (copy("/a/0", "/a/2"), b'{"a":[1,{"b":2},1],"c":3}')])

    def test_to_all_of_the_document(self):
        self.check_all(b'{"a":[1,{"b":2}],"c":3}', [(copy("/a/1", ""), b'{"b":2}'), (copy("/c", ""), b"3"),
                                                    (copy("", ""), b'{"a":[1,{"b":2}],"c":3}')])

    def test_into_itself(self):
        self.check_all(b'{"a":1}', [(copy("", "/a"), b'{"a":{"a":1}}'), (copy("", "/b"), b'{"a":1,"b":{"a":1}}'),
                                    ([copy("", "/b"), copy("", "/b/c")], b'{"a":1,"b":{"a":1,"c":{"a":1,"b":{"a":1}}}}')])
        self.check_all(b"[[1]]", [
            (copy("", "/-"), b"[[1],[[1]]]"), (copy("", "/0"), b"[[[1]],[1]]"), (copy("", "/0/0"), b"[[[[1]],1]]"),
            (copy("/0", "/0/0"), b"[[[1],1]]"), ([copy("/0", "/0/-"), copy("/0", "/0/-")], b"[[1,[1],[1,[1]]]]")])

    def test_a_changed_copy_leaves_the_other(self):
        t = b'{"a":{"b":[1,{"c":2}]}}'
        both = b'{"a":{"b":[1,{"c":2}]},"d":%s}'
        turned = b'{"a":%s,"d":{"b":[1,{"c":2}]}}'
        for change, value in ((add("/b/0", 5), b'{"b":[5,1,{"c":2}]}'), (add("/b/1/e", 5), b'{"b":[1,{"c":2,"e":5}]}'),
                              (remove("/b/0"), b'{"b":[{"c":2}]}'), (remove("/b/1/c"), b'{"b":[1,{}]}'), (remove("/b"), b"{}"),
                              (replace("/b/1/c", 5), b'{"b":[1,{"c":5}]}'), (add("/f", 5), b'{"b":[1,{"c":2}],"f":5}')):
            self.check(t, [copy("/a", "/d"), dict(change, path="/d" + change["path"])], both % value)
            self.check(t, [copy("/a", "/d"), dict(change, path="/a" + change["path"])], turned % value)
        self.check(t, [copy("/a", "/d"), move("/d/b/1", "/d/b/0")], both % b'{"b":[{"c":2},1]}')
        self.check(t, [copy("/a", "/d"), move("/a/b/1", "/a/b/0")], turned % b'{"b":[{"c":2},1]}')

    def test_one_value_added_twice(self):
        p = [add("", {"x": []}), copy("/x", "/y"), add("/x/-", 1), add("/y/-", 2), copy("/x", "/z"), add("/z/-", 3)]
        self.check(b"1", p, b'{"x":[1],"y":[2],"z":[1,3]}')


class Testing(Patched):
    def check_same(self, t, values, path=""):
        for value in values:
            p = b'[{"op":"test","path":"' + path.encode() + b'","value":' + value + b"}]"
            self.check(t, p, t)

    def check_differs(self, t, values, path=""):
        for value in values:
            p = b'[{"op":"test","path":"' + path.encode() + b'","value":' + value + b"}]"
            self.check(t, p, NOT_DONE)

    def test_each_kind_of_value(self):
        kinds = [b"null", b"true", b"false", b"0", b"1", b"-1", b'""', b'"0"', b'"null"', b'"true"', b"[]", b"{}", b"[0]",
                 b"[[]]", b"[{}]", b'{"":0}', b'{"a":[]}', b'{"a":{}}', b"[null]", b'{"a":null}', b"[true]", b"[1]", b"[false]",
                 b'{"a":true}', b'{"a":1}', b'"[]"', b'"1"', b'{"0":0}', b"[1,1]", b'[""]', b"[-1]", b'"a"', b'"A"', b'" a"']
        for one in kinds:
            for other in kinds:
                (self.check_same if one == other else self.check_differs)(one, [other])
                nested = b'{"x":[7,' + one + b"]}"
                (self.check_same if one == other else self.check_differs)(nested, [other], "/x/1")
                (self.check_same if one == other else self.check_differs)(nested, [b'{"x":[7,' + other + b"]}"])

    def test_members_in_another_order(self):
        t = b'{"a":1,"b":{"c":[2],"d":3},"e":null}'
        self.check_same(t, [t, b'{"e":null,"b":{"d":3,"c":[2]},"a":1}', b'{"b":{"c":[2],"d":3},"a":1,"e":null}'])
        self.check_differs(t, [b'{"a":1,"b":{"c":[2],"d":3}}', b'{"a":1,"b":{"c":[2],"d":3},"f":null}',
                               b'{"a":1,"b":{"c":3,"d":[2]},"e":null}', b'{"a":null,"b":{"c":[2],"d":3},"e":1}',
                               b'{"a":1,"b":{"c":[2],"d":3},"e":null,"f":1}', b'{"a":1,"b":{"d":3},"e":null}'])

    def test_members_of_other_names(self):
        self.check_differs(b'{"a":1,"b":1}', [b'{"a":1,"c":1}', b'{"c":1,"b":1}', b'{"a":1,"B":1}', b'{"ab":11}', b"[1,1]"])

    def test_lists_in_another_order(self):
        self.check_same(b"[1,2,3]", [b"[1,2,3]", b" [ 1 , 2 , 3 ] "])
        self.check_differs(b"[1,2,3]", [b"[3,2,1]", b"[1,3,2]", b"[1,2]", b"[1,2,3,3]", b"[12,3]", b"[1,2,4]", b"[]"])
        self.check_differs(b"[[1],[2]]", [b"[[2],[1]]", b"[[1,2],[]]", b"[[1],2]"])

    def test_numbers(self):
        self.check_same(b"9223372036854775807", [b"9223372036854775807"])
        self.check_differs(b"9223372036854775807", [b"9223372036854775806", b"-9223372036854775807"])
        self.check_same(b"-9223372036854775808", [b"-9223372036854775808"])
        self.check_differs(b"9007199254740993", [b"9007199254740992"])
        self.check_differs(b"10", [b"1", b"-1", b"11", b'"10"', b"[10]", b"100"])

    def test_texts(self):
        self.check_same(b'"a\xc3\xa9/"', [b'"a\xc3\xa9/"', b'"\\u0061\\u00e9\\/"'])
        self.check_differs(b'"a\xc3\xa9/"', [b'"a\xc3\xa8/"', b'"ae/"', b'"A\xc3\xa9/"', b'"a\xc3\xa9/ "', b'"a\xc3\xa9"'])
        self.check_differs(b'"\xc3\xa9"', [b'"e\xcc\x81"'])
        self.check_same(b'"\xf0\x9f\x98\x80"', [b'"\\ud83d\\ude00"'])
        self.check_differs(b'"ab"', [b'"ba"', b'["a","b"]', b"[97,98]"])
        self.check_differs(b'"\\u0001"', [b'"\\u0002"', b'"u0001"'])

    def test_lists_that_look_like_texts(self):
        self.check_differs(b"[97]", [b'"a"'])
        self.check_differs(b'"a"', [b"[97]"])
        self.check_differs(b'""', [b"[]", b"{}", b"null", b"0", b"false"])

    def test_where_it_is_asked(self):
        self.check_same(DEEP, [b'"e"'], "/a/1/b/c/2/d")
        self.check_same(DEEP, [b"0"], "/a/0")
        self.check_same(DEEP, [b"null"], "/z")
        self.check_differs(DEEP, [b"null"], "/y")
        self.check_differs(DEEP, [b"null"], "/a/2")
        self.check_differs(DEEP, [b"null"], "/a/-")

    def test_after_what_was_done(self):
        self.check(b"{}", [add("/a", 1), tested("", {"a": 1}), add("/b", 2), tested("", {"b": 2, "a": 1}), remove("/a"),
                           tested("", {"b": 2}), move("/b", "/a"), tested("", {"a": 2})], b'{"a":2}')
        self.check(b"[1]", [add("/-", 2), tested("/1", 2), tested("/1", 1), add("/-", 3)], NOT_DONE)

    def test_that_changes_nothing(self):
        self.check(b'{"b":1,"a":2}', tested("", {"a": 2, "b": 1}), b'{"b":1,"a":2}')
        self.check(b'{"c":{"b":1,"a":2}}', tested("/c", {"a": 2, "b": 1}), b'{"c":{"b":1,"a":2}}')


class OneAfterAnother(Patched):
    def test_each_sees_what_the_one_before_did(self):
        self.check(b"[]", [add("/-", k) for k in range(12)] + [remove("/10")], b"[0,1,2,3,4,5,6,7,8,9,11]")
        self.check(b"{}", [add("/a", {}), move("/a", "/b"), copy("/b", "/b/a"), replace("/b/a", 1)], b'{"b":{"a":1}}')

    def test_all_or_nothing(self):
        self.check(b"{}", [add("/a", 1), remove("/b")], NOT_DONE)
        self.check(b"{}", [remove("/b"), add("/a", 1)], NOT_DONE)
        self.check(b"{}", [add("/a", 1), add("/b/c", 1), add("/b", {})], NOT_DONE)
        self.check(b"{}", [add("/a", 1), add("/b", {}), add("/b/c", 1)], b'{"a":1,"b":{"c":1}}')


if __name__ == "__main__":
    unittest.main()
