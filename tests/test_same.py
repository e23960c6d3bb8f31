"""Promise 4, same: ordinary documents, the edges that the document names, and wrong ones."""
import itertools
import unittest

from asking import NOT_DOCUMENT, NOT_SECOND, nested
from comparing import OTHER, SAME, Told
from keeping import Keeping
from patchwords.documents import same
from two_documents import TwoDocuments

# No two of them are the same.
VALUES = (
    b"null", b"true", b"false", b"0", b"1", b"-1", b"9223372036854775807", b"-9223372036854775808", b'""', b'"0"', b'"1"', b'"null"', b'"true"',
    b'"false"', b'"[]"', b'"{}"', b'"a"', b'"A"', b'" a"', b'"a "', b'"aa"', b"[]", b"{}", b"[0]", b"[1]", b"[-1]", b"[null]", b"[true]",
    b"[false]", b'[""]', b"[[]]", b"[{}]", b"[[],[]]", b"[1,1]", b"[97]", b'["a"]', b'["a",1]', b'[["a",1]]', b'{"":0}', b'{"":""}', b'{"a":0}',
    b'{"a":1}', b'{"a":true}', b'{"a":false}', b'{"a":null}', b'{"a":""}', b'{"a":[]}', b'{"a":{}}', b'{"a":"1"}', b'{"A":1}', b'{"aa":1}',
    b'{"0":0}', b'{"0":1}', b'{"a":1,"b":1}', b'{"a":1,"b":null}', b'{"a":[1]}', b'{"a":{"a":1}}')


class TheForm(Keeping, unittest.TestCase):
    CALLS = [(b'{"a":1,"b":[2,{}]}', b'{ "b" : [2, {}], "a" : 1 }'), (b'{"a":1}', b'{"a":2}'), (b"[1,2]", b"[1,2]"), (b"1", b"true"),
             (b'{"a":1', b"1"), (b"1", b'{"a":1'), (b"", b""), (b'"\\u0061"', b'"a"')]

    def call(self, t, p):
        return same(t, p)

    def test_answer_is_one_whole_number(self):
        for t, p, wanted in ((b"1", b"1", 1), (b"1", b"2", 0), (b"true", b"true", 1), (b"true", b"false", 0), (b"{}", b"{}", 1), (b"{}", b"[]", 0),
                             (b"[1]", b"[1]", 1), (b"[1]", b"[2]", 0), (b'{"a":1}', b'{"a":1}', 1), (b'{"a":1}', b'{"b":1}', 0), (b'""', b'""', 1)):
            answer = same(list(t), list(p))
            self.assertEqual(answer, [wanted])
            self.assertIs(type(answer), list)
            self.assertIs(type(answer[0]), int)

    def test_refusals_stand_alone(self):
        self.assertEqual(same([], [49]), [-3])
        self.assertEqual(same([49], []), [-4])
        self.assertEqual(same([], []), [-3])


class EachKind(Told):
    def test_each_beside_each(self):
        for t, p in itertools.product(VALUES, VALUES):
            self.check(t, p, SAME if t == p else OTHER)

    def test_each_beside_each_within_others(self):
        for t, p in itertools.product(VALUES, VALUES):
            wanted = SAME if t == p else OTHER
            self.check(b'{"x":[7,' + t + b'],"y":1}', b'{"y":1,"x":[7,' + p + b"]}", wanted)
            self.check(b"[[" + t + b"]]", b"[[" + p + b"]]", wanted)

    def test_kinds_that_are_easily_mixed_up(self):
        self.check_other(b"true", [b"1", b'"true"', b"[true]"])
        self.check_other(b"false", [b"0", b"null", b'""', b"[]", b"{}"])
        self.check_other(b"null", [b"0", b'""', b"[]", b"{}", b'"null"'])
        self.check_other(b"1", [b'"1"', b"[1]", b'{"1":1}', b"-1", b"10", b"11"])
        self.check_other(b"[]", [b"{}", b'""', b"[[]]", b"[null]"])
        self.check_other(b"{}", [b'{"":null}', b"[{}]", b'{"a":{}}'])
        self.check_other(b'"ab"', [b"[97,98]", b'["a","b"]', b'"ba"'])
        self.check_other(b'{"0":1,"1":2}', [b"[1,2]"])
        self.check_other(b'{"a":null}', [b"{}", b'{"b":null}'])


class Members(Told):
    T = b'{"a":1,"b":{"c":[2,{"x":1,"y":2}],"d":3},"e":null}'

    def test_in_another_order(self):
        self.check_same(self.T, [self.T, b'{"e":null,"b":{"d":3,"c":[2,{"y":2,"x":1}]},"a":1}', b'{"b":{"c":[2,{"x":1,"y":2}],"d":3},"a":1,"e":null}',
                                 b'{"a":1,"b":{"d":3,"c":[2,{"x":1,"y":2}]},"e":null}', b'{"a":1,"b":{"c":[2,{"y":2,"x":1}],"d":3},"e":null}'])

    def test_every_order(self):
        rows = [b'"a":1', b'"":[2,3]', b'"b":{"c":4,"d":5}', b'"0":null']
        for order in itertools.permutations(rows):
            self.check(b"{" + b",".join(rows) + b"}", b"{" + b",".join(order) + b"}", SAME)
            self.check(b"[{" + b",".join(rows) + b"}]", b"[{" + b",".join(order) + b"}]", SAME)
            self.check(b"{" + b",".join(rows[:3]) + b',"0":1}', b"{" + b",".join(order) + b"}", OTHER)

    def test_one_more(self):
        self.check_other(self.T, [
            b'{"a":1,"b":{"c":[2,{"x":1,"y":2}],"d":3}}', b'{"a":1,"b":{"c":[2,{"x":1,"y":2}],"d":3},"e":null,"f":1}',
            b'{"a":1,"b":{"c":[2,{"x":1,"y":2}],"d":3,"z":1},"e":null}', b'{"a":1,"b":{"c":[2,{"x":1}],"d":3},"e":null}',
            b'{"a":1,"b":{"c":[2,{"x":1,"y":2}]},"e":null}', b"{}", b'{"":null,"a":1,"b":{"c":[2,{"x":1,"y":2}],"d":3},"e":null}',
            b'{"a":1,"b":{"c":[2,{"x":1,"y":2,"z":null}],"d":3},"e":null}'])

    def test_same_names_other_values(self):
        self.check_other(self.T, [
            b'{"a":2,"b":{"c":[2,{"x":1,"y":2}],"d":3},"e":null}', b'{"a":1,"b":{"c":[2,{"x":2,"y":1}],"d":3},"e":null}',
            b'{"a":null,"b":{"c":[2,{"x":1,"y":2}],"d":3},"e":1}', b'{"a":1,"b":{"c":3,"d":[2,{"x":1,"y":2}]},"e":null}',
            b'{"a":1,"b":{"c":[2,{"x":1,"y":2}],"d":3},"e":false}', b'{"a":1,"b":null,"e":null}', b'{"a":1,"b":1,"e":1}'])
        self.check_other(b'{"a":1,"b":2}', [b'{"a":2,"b":1}', b'{"b":1,"a":2}'])

    def test_other_names_same_values(self):
        self.check_other(self.T, [
            b'{"a":1,"b":{"c":[2,{"x":1,"y":2}],"d":3},"f":null}', b'{"A":1,"b":{"c":[2,{"x":1,"y":2}],"d":3},"e":null}',
            b'{"a":1,"b":{"c":[2,{"x":1,"z":2}],"d":3},"e":null}', b'{"a":1,"b":{"":[2,{"x":1,"y":2}],"d":3},"e":null}'])
        self.check_other(b'{"a":1,"b":1}', [b'{"a":1,"c":1}', b'{"c":1,"b":1}', b'{"a":1,"B":1}', b'{"ab":11}', b"[1,1]", b'{"a":1,"":1}'])
        self.check_other(b'{"a":null,"b":null}', [b'{"a":null,"c":null}', b'{"c":null,"d":null}', b"{}"])
        self.check_other(b'{"a":{"b":1}}', [b'{"b":{"a":1}}', b'{"a":{"b":{}}}', b'{"ab":1}'])


class Lists(Told):
    def test_in_another_order(self):
        self.check_same(b"[1,2,3]", [b"[1,2,3]", b" [ 1 , 2 , 3 ] "])
        self.check_other(b"[1,2,3]", [b"[3,2,1]", b"[1,3,2]", b"[2,1,3]", b"[2,3,1]"])
        self.check_other(b"[[1],[2]]", [b"[[2],[1]]", b"[[1,2],[]]", b"[[1],2]", b"[[],[1,2]]", b"[[1,[2]]]"])
        self.check_other(b'[{"a":1},{"b":2}]', [b'[{"b":2},{"a":1}]', b'[{"a":1,"b":2}]', b'[{"a":1,"b":2},{}]'])
        self.check_other(b'{"a":[1,2]}', [b'{"a":[2,1]}'])

    def test_members_within(self):
        self.check_same(b'[{"a":1,"b":2},{"c":[{"d":3,"e":4}]}]', [b'[{"b":2,"a":1},{"c":[{"e":4,"d":3}]}]'])
        self.check_other(b'[{"a":1,"b":2},{"c":3}]', [b'[{"c":3},{"a":1,"b":2}]', b'[{"b":1,"a":2},{"c":3}]'])

    def test_one_more(self):
        self.check_other(b"[1,2,3]", [b"[1,2]", b"[1,2,3,3]", b"[0,1,2,3]", b"[2,3]", b"[]", b"[1,2,3,null]", b"[[1,2,3]]", b"[12,3]", b"[1,2,4]"])
        self.check_other(b"[[],[]]", [b"[[]]", b"[[],[],[]]", b"[[[],[]]]", b"[]"])
        self.check_other(b'{"a":[1,2]}', [b'{"a":[1]}', b'{"a":[1,2,2]}', b'{"a":[]}'])


class WrittenInTwoWays(Told):
    def test_texts(self):
        self.check_same(b'"a\xc3\xa9/"', [b'"\\u0061\\u00e9\\/"', b'"\\u0061\\u00E9\\u002f"', b'"a\\u00e9/"', b' "a\xc3\xa9/" '])
        self.check_same(b'"\xf0\x9f\x98\x80"', [b'"\\ud83d\\ude00"', b'"\\uD83D\\uDE00"', b'"\\uD83d\\uDe00"'])
        self.check_same(b'"\\n\\t\\b\\f\\r\\"\\\\"', [
            b'"\\u000a\\u0009\\u0008\\u000c\\u000d\\u0022\\u005c"', b'"\\u000A\\t\\u0008\\f\\u000D\\"\\u005C"'])
        self.check_same(b'"\xe2\x82\xac"', [b'"\\u20ac"', b'"\\u20AC"'])
        self.check_same(b'"\x7f\xf4\x8f\xbf\xbf"', [b'"\\u007f\\udbff\\udfff"'])

    def test_names(self):
        self.check_same(b'{"a/":1,"\xc3\xa9":2,"\xf0\x9f\x98\x80":3}', [
            b'{"\\u0061\\/":1,"\\u00e9":2,"\\ud83d\\ude00":3}', b'{"\\ud83d\\ude00":3,"a\\u002f":1,"\\u00E9":2}'])
        self.check_same(b'{"\\n":{"\\"":1},"\\\\":2}', [b'{"\\u005c":2,"\\u000a":{"\\u0022":1}}'])
        self.check_same(b'[{"\\u0000":[{"":1}]}]', [b'[ { "\\u0000" : [ { "" : 1 } ] } ]'])

    def test_almost_alike(self):
        self.check_other(b'"\xc3\xa9"', [b'"e\xcc\x81"', b'"\xc3\xa8"', b'"e"', b'"\\u00c9"', b'"u00e9"', b'"\\\\u00e9"', b'"\xc3\xa9 "', b'""'])
        self.check_other(b'"\\u0001"', [b'"\\u0002"', b'"u0001"', b'"\\\\u0001"', b'"\\u0010"', b'""'])
        self.check_other(b'"\\n"', [b'"n"', b'"\\\\n"', b'"\\r"', b'" "'])
        self.check_other(b'"\xf0\x9f\x98\x80"', [b'"\\ud83d\\ude01"', b'"\\ud83e\\ude00"', b'"\xef\xbf\xbd"'])
        self.check_other(b'{"\xc3\xa9":1}', [b'{"e\xcc\x81":1}', b'{"\xc3\xa8":1}', b'{"\\\\u00e9":1}', b'{"\\u00c9":1}'])
        self.check_other(b'"a"', [b'"a\\u0000"', b'"\\u0000a"', b'"\xef\xbb\xbfa"', b'"\xc2\xa0a"'])

    def test_blanks(self):
        t = b'{"a":[1,{"b":"x y"},[]],"c":{},"d":-7}'
        self.check_same(t, [b' { "a" : [ 1 , { "b" : "x y" } , [ ] ] , "c" : { } , "d" : -7 } ',
                            b'\r\n{\t"a":\n[\r1,{"b":"x y"},[\n]],"c":{\t\t},"d":-7}\n\n'])
        self.check_other(t, [t.replace(b"x y", b"xy"), t.replace(b"x y", b"x  y"), t.replace(b'"a"', b'" a"'), t.replace(b"x y", b"x\\ty")])
        for value in VALUES:
            self.check_same(value, [b" " + value, value + b"\n", b"\t\r" + value + b"  "])


class Numbers(Told):
    ENDS = (b"-9223372036854775808", b"-9223372036854775807", b"-9223372036854775806", b"-9007199254740993", b"-9007199254740992", b"-4294967296",
            b"-2147483648", b"-10", b"-1", b"0", b"1", b"10", b"2147483647", b"4294967295", b"4294967296", b"9007199254740992", b"9007199254740993",
            b"9223372036854775806", b"9223372036854775807")

    def test_ends_of_sixty_four_bits(self):
        for t, p in itertools.product(self.ENDS, self.ENDS):
            self.check(t, p, SAME if t == p else OTHER)
            self.check(b'{"a":[' + t + b"]}", b'{"a":[' + p + b"]}", SAME if t == p else OTHER)

    def test_beyond_them(self):
        for wrong in (b"9223372036854775808", b"-9223372036854775809", b"18446744073709551616", b"1" * 65536):
            self.check(wrong, wrong, NOT_DOCUMENT)
            self.check(b"1", wrong, NOT_SECOND)

    def test_written_otherwise(self):
        for wrong in (b"-0", b"00", b"01", b"+1", b"1.0", b"1e0", b"10e-1"):
            self.check(b"1", wrong, NOT_SECOND)
            self.check(wrong, b"1", NOT_DOCUMENT)


class Deep(Told):
    def pairs(self, deep):
        """The same lists and members around each of some values that differ."""
        inner = (b"1", b"2", b"true", b'"1"', b"null")
        for first, last in ((b"[", b"]"), (b'{"a":', b"}"), (b"[0,", b"]"), (b"[", b",0]"), (b'{"b":0,"a":', b"}")):
            for one, other in itertools.product(inner, inner):
                yield first * deep + one + last * deep, first * deep + other + last * deep, SAME if one == other else OTHER

    def test_thirty_two(self):
        for t, p, wanted in self.pairs(32):
            self.check(t, p, wanted)

    def test_thirty_two_in_another_order(self):
        t, p = b'{"a":' * 32 + b"1" + b',"b":2}' * 32, b'{"b":2,"a":' * 32 + b"1" + b"}" * 32
        self.check_same(t, [p])
        self.check_other(t, [b'{"b":2,"a":' * 32 + b"3" + b"}" * 32, b'{"b":2,"a":' * 31 + b'{"b":3,"a":1}' + b"}" * 31])

    def test_not_alike_at_the_deepest_place(self):
        self.check_other(b"[" * 32 + b"]" * 32, [b"[" * 31 + b"{}" + b"]" * 31, b"[" * 31 + b"]" * 31, b"[" * 32 + b"0" + b"]" * 32])
        self.check_other(nested(32), [nested(32, b"{}"), nested(31), nested(32, b"[1]")])
        self.check_other(b'{"a":' * 31 + b'{"a":1}' + b"}" * 31, [b'{"a":' * 31 + b'{"b":1}' + b"}" * 31, b'{"a":' * 31 + b"{}" + b"}" * 31])
        self.check_same(nested(32), [nested(32)])

    def test_thirty_three_and_deeper(self):
        for deep in (33, 34, 35):
            for t, p, wanted in self.pairs(deep):
                self.check(t, p, NOT_DOCUMENT)
                self.check(t, b"1", NOT_DOCUMENT)
                self.check(b"1", p, NOT_SECOND)
            self.check(nested(deep), nested(32), NOT_DOCUMENT)
            self.check(nested(32), nested(deep), NOT_SECOND)


class NotDocuments(TwoDocuments, Told):
    # Though it could be told already that they aren't the same.
    def test_wrong_behind_what_is_not_the_same(self):
        self.check(b"[1,2]", b"[3,]", NOT_SECOND)
        self.check(b'{"a":1}', b'{"b":2,"b":2}', NOT_SECOND)
        self.check(b"[1,", b"{}", NOT_DOCUMENT)
        self.check(b"1", b"[" + b"2," * 1000 + b"]", NOT_SECOND)


if __name__ == "__main__":
    unittest.main()
