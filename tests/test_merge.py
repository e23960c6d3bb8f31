"""Promise 3, merge: ordinary documents, and the edges that the document names."""
import unittest

from asking import NOT_DOCUMENT, NOT_SECOND
from keeping import Keeping
from merging import Merged
from patchwords.documents import merge

# All that isn't members, as it is written.
OTHERS = (b"null", b"true", b"false", b"0", b"-12", b"9223372036854775807", b"-9223372036854775808", b'""', b'"null"', b'"a"', b"[]",
          b"[null]", b"[1,null,[null]]", b'[{"a":null}]', b'[{"a":{"b":null,"c":1}},null]')
MEMBERS = (b"{}", b'{"a":1}', b'{"a":null}', b'{"a":{"b":null}}', b'{"b":[1,2],"a":{"c":{}},"":null}')


class TheForm(Keeping, unittest.TestCase):
    CALLS = [(b'{"a":{"b":1},"c":[1]}', b'{"a":{"b":null,"d":2},"c":null,"e":{"f":null}}'), (b'{"a":1}', b'{"a":{"b":1}}'),
             (b'{"a":{"b":[1]},"c":null}', b"{}"),
             (b'{"a":1}', b"[1]"), (b"[1]", b'{"a":null}'), (b'{"a":1}', b"{}"), (b'{"a":1', b"{}"), (b'{"a":1}', b'{"a":1'),
             (b'{"a":"' + b"\\n" * 30000 + b'"}', b'{"b":"' + b"\\n" * 30000 + b'"}')]

    def call(self, t, p):
        return merge(t, p)

    def test_answer_is_length_then_bytes(self):
        self.assertEqual(merge(list(b'{"a":1}'), list(b'{"a": 2}')), [7] + list(b'{"a":2}'))
        self.assertEqual(merge(list(b'{"a":1}'), list(b'{"a":null}')), [2, 123, 125])
        self.assertEqual(merge(list(b'{"a":1}'), list(b" 7 ")), [1, 55])

    def test_refusals_stand_alone(self):
        self.assertEqual(merge([], [49]), [-3])
        self.assertEqual(merge([49], []), [-4])
        self.assertEqual(merge([], []), [-3])
        self.assertEqual(merge(*map(list, self.CALLS[-1])), [-7])

    def test_merged_with_itself(self):
        given = list(b'{"a":{"b":[1]},"c":null}')
        self.assertEqual(merge(given, given), [15] + list(b'{"a":{"b":[1]}}'))


class WithAnythingElse(Merged):
    def test_it_is_that(self):
        for p in OTHERS:
            for t in OTHERS + MEMBERS:
                self.check(t, p, p)

    def test_it_is_written(self):
        self.check_all(b'{"a":[1]}', [
            (b" [ 1 , { \"a\" : null } ] ", b'[1,{"a":null}]'), (b"\tnull\n", b"null"), (b'"\\u0041\\/\\n\\t"', b'"A/\\u000a\\u0009"'),
            (b'["\\ud83d\\ude00\\\\\\""]', b'["\xf0\x9f\x98\x80\\\\\\""]')])

    def test_lists_are_not_merged(self):
        self.check_all(b"[1,2,3]", [(b"[4]", b"[4]"), (b"[]", b"[]"), (b"[null,null]", b"[null,null]"), (b'{"0":4}', b'{"0":4}')])
        self.check_all(b'{"a":[{"b":1},2]}', [
            (b'{"a":[{"c":3}]}', b'{"a":[{"c":3}]}'), (b'{"a":[null]}', b'{"a":[null]}'), (b'{"a":[{"b":null}]}', b'{"a":[{"b":null}]}'),
            (b'{"a":[]}', b'{"a":[]}'), (b'{"a":{"0":null}}', b'{"a":{}}'), (b'{"a":[[{"b":null,"c":{"d":null}}]]}',
                                                                              b'{"a":[[{"b":null,"c":{"d":null}}]]}')])


class BeginsWithNone(Merged):
    def test_what_is_not_members(self):
        for t in OTHERS:
            self.check_all(t, [
                (b"{}", b"{}"), (b'{"a":1}', b'{"a":1}'), (b'{"a":null}', b"{}"), (b'{"b":1,"a":2}', b'{"b":1,"a":2}'),
                (b'{"a":null,"b":1,"c":null}', b'{"b":1}'), (b'{"0":7}', b'{"0":7}'), (b'{"a":{"b":null}}', b'{"a":{}}'),
                (b'{"a":[null]}', b'{"a":[null]}'), (b'{"":{"":{"":null}}}', b'{"":{"":{}}}')])

    def test_members_within(self):
        for value in OTHERS:
            self.check_all(b'{"x":0,"a":' + value + b',"y":1}', [
                (b'{"a":{}}', b'{"x":0,"a":{},"y":1}'), (b'{"a":{"b":2}}', b'{"x":0,"a":{"b":2},"y":1}'),
                (b'{"a":{"b":null}}', b'{"x":0,"a":{},"y":1}'), (b'{"a":{"b":{"c":null,"d":3}}}', b'{"x":0,"a":{"b":{"d":3}},"y":1}'),
                (b'{"a":{"0":null,"1":4}}', b'{"x":0,"a":{"1":4},"y":1}')])

    def test_members_replaced_by_anything_else(self):
        for value in OTHERS[1:]:
            self.check(b'{"x":0,"a":{"b":{"c":1}},"y":1}', b'{"a":' + value + b"}", b'{"x":0,"a":' + value + b',"y":1}')
            self.check(b'{"a":{"b":{"c":1},"d":2}}', b'{"a":{"b":' + value + b"}}", b'{"a":{"b":' + value + b',"d":2}}')


class WithNoMembers(Merged):
    def test_members_stay(self):
        for t in MEMBERS:
            for p in (b"{}", b" { } ", b"\n{\t}\r"):
                self.check(t, p, t)
        self.check(b' { "b" : [ 1 , "\\n\\/" ] , "a" : null } ', b"{}", b'{"b":[1,"\\u000a/"],"a":null}')

    def test_anything_else_goes(self):
        for t in OTHERS:
            self.check(t, b"{}", b"{}")

    def test_within(self):
        self.check(b'{"a":{"b":1},"c":2}', b'{"a":{},"c":{},"d":{}}', b'{"a":{"b":1},"c":{},"d":{}}')


class WhereMembersStand(Merged):
    T = b'{"a":1,"b":2,"c":3}'

    def test_one_that_is_there(self):
        self.check_all(self.T, [
            (b'{"a":9}', b'{"a":9,"b":2,"c":3}'), (b'{"b":9}', b'{"a":1,"b":9,"c":3}'), (b'{"c":9}', b'{"a":1,"b":2,"c":9}'),
            (b'{"c":7,"b":8,"a":9}', b'{"a":9,"b":8,"c":7}'), (b'{"b":{"x":null}}', b'{"a":1,"b":{},"c":3}'),
            (b'{"b":2}', self.T), (b'{"b":[1]}', b'{"a":1,"b":[1],"c":3}')])

    def test_one_that_is_not(self):
        self.check_all(self.T, [
            (b'{"d":4}', b'{"a":1,"b":2,"c":3,"d":4}'), (b'{"":4}', b'{"a":1,"b":2,"c":3,"":4}'), (b'{"A":4}', b'{"a":1,"b":2,"c":3,"A":4}'),
            (b'{"a ":4,"aa":5}', b'{"a":1,"b":2,"c":3,"a ":4,"aa":5}')])

    def test_several_in_order(self):
        self.check_all(self.T, [
            (b'{"z":1,"y":2,"x":3}', b'{"a":1,"b":2,"c":3,"z":1,"y":2,"x":3}'), (b'{"x":1,"b":9,"d":4}', b'{"a":1,"b":9,"c":3,"x":1,"d":4}'),
            (b'{"x":1,"b":null,"d":4}', b'{"a":1,"c":3,"x":1,"d":4}'), (b'{"c":null,"z":1,"a":null,"y":2,"b":5}', b'{"b":5,"z":1,"y":2}'),
            (b'{"z":{"y":1,"x":2},"w":0}', b'{"a":1,"b":2,"c":3,"z":{"y":1,"x":2},"w":0}')])
        self.check(b"{}", b'{"c":1,"a":2,"b":3}', b'{"c":1,"a":2,"b":3}')

    def test_within_members(self):
        self.check_all(b'{"k":{"a":1,"b":{"x":1,"y":2}},"l":0}', [
            (b'{"k":{"c":3,"b":{"z":3,"x":9},"a":null}}', b'{"k":{"b":{"x":9,"y":2,"z":3},"c":3},"l":0}'),
            (b'{"l":1,"k":{"b":{"y":null}}}', b'{"k":{"a":1,"b":{"x":1}},"l":1}')])


class Null(Merged):
    T = b'{"a":1,"b":null,"c":{"d":null,"e":{"f":2}},"g":[null]}'

    def test_taken_out(self):
        self.check_all(self.T, [
            (b'{"a":null}', b'{"b":null,"c":{"d":null,"e":{"f":2}},"g":[null]}'), (b'{"c":null}', b'{"a":1,"b":null,"g":[null]}'),
            (b'{"g":null}', b'{"a":1,"b":null,"c":{"d":null,"e":{"f":2}}}'), (b'{"b":null}', b'{"a":1,"c":{"d":null,"e":{"f":2}},"g":[null]}'),
            (b'{"a":null,"b":null,"c":null,"g":null}', b"{}"), (b'{"g":null,"c":null,"b":null,"a":null}', b"{}")])

    def test_where_it_is_not_there(self):
        self.check_all(self.T, [(b'{"x":null}', self.T), (b'{"":null}', self.T), (b'{"A":null,"d":null,"f":null}', self.T),
                                (b'{"x":null,"y":1,"z":null}', self.T[:-1] + b',"y":1}')])
        self.check(b"{}", b'{"a":null}', b"{}")

    def test_deep_within(self):
        self.check_all(self.T, [
            (b'{"c":{"d":null}}', b'{"a":1,"b":null,"c":{"e":{"f":2}},"g":[null]}'),
            (b'{"c":{"e":{"f":null}}}', b'{"a":1,"b":null,"c":{"d":null,"e":{}},"g":[null]}'),
            (b'{"c":{"e":null}}', b'{"a":1,"b":null,"c":{"d":null},"g":[null]}'),
            (b'{"c":{"x":null}}', self.T), (b'{"c":{"e":{"x":null}}}', self.T)])

    def test_deep_within_where_something_else_is(self):
        self.check_all(self.T, [
            (b'{"a":{"x":null}}', b'{"a":{},"b":null,"c":{"d":null,"e":{"f":2}},"g":[null]}'),
            (b'{"b":{"x":null}}', b'{"a":1,"b":{},"c":{"d":null,"e":{"f":2}},"g":[null]}'),
            (b'{"g":{"0":null}}', b'{"a":1,"b":null,"c":{"d":null,"e":{"f":2}},"g":{}}'),
            (b'{"c":{"d":{"x":null,"y":{"z":null}}}}', b'{"a":1,"b":null,"c":{"d":{"y":{}},"e":{"f":2}},"g":[null]}'),
            (b'{"c":{"e":{"f":{"f":null}}}}', b'{"a":1,"b":null,"c":{"d":null,"e":{"f":{}}},"g":[null]}')])

    def test_deep_within_where_nothing_is(self):
        self.check_all(self.T, [
            (b'{"x":{"y":null}}', self.T[:-1] + b',"x":{}}'), (b'{"x":{"y":{"z":null}}}', self.T[:-1] + b',"x":{"y":{}}}'),
            (b'{"x":{"y":null,"z":1}}', self.T[:-1] + b',"x":{"z":1}}'),
            (b'{"x":{"y":[null,{"z":null}]}}', self.T[:-1] + b',"x":{"y":[null,{"z":null}]}}'),
            (b'{"c":{"x":{"y":null}}}', b'{"a":1,"b":null,"c":{"d":null,"e":{"f":2},"x":{}},"g":[null]}')])

    def test_a_null_that_is_not_named_stays(self):
        self.check_all(b'{"a":null,"b":{"c":null,"d":1},"e":[null]}', [
            (b'{"x":1}', b'{"a":null,"b":{"c":null,"d":1},"e":[null],"x":1}'), (b'{"b":{"d":2}}', b'{"a":null,"b":{"c":null,"d":2},"e":[null]}'),
            (b'{"b":{"d":null}}', b'{"a":null,"b":{"c":null},"e":[null]}'), (b"{}", b'{"a":null,"b":{"c":null,"d":1},"e":[null]}'),
            (b'{"b":1}', b'{"a":null,"b":1,"e":[null]}')])

    def test_a_null_put_over(self):
        self.check(b'{"a":null}', b'{"a":1}', b'{"a":1}')
        self.check(b'{"a":null}', b'{"a":{}}', b'{"a":{}}')
        self.check(b'{"a":null}', b'{"a":[null]}', b'{"a":[null]}')

    def test_only_null_is_null(self):
        for value in (b"false", b"0", b'""', b"[]", b"{}", b'"null"', b"[null]"):
            self.check(b'{"a":1}', b'{"a":' + value + b"}", b'{"a":' + value + b"}")
            self.check(b"{}", b'{"a":' + value + b"}", b'{"a":' + value + b"}")


class Deep(Merged):
    def members(self, deep, innermost):
        return b'{"a":' * deep + innermost + b"}" * deep

    def test_several_deep(self):
        self.check(b'{"a":{"b":{"c":{"d":1,"e":2}},"f":3}}', b'{"a":{"b":{"c":{"e":null,"g":{"h":null}}},"i":4}}',
                   b'{"a":{"b":{"c":{"d":1,"g":{}}},"f":3,"i":4}}')

    def test_thirty_two_deep(self):
        for t, p, wanted in ((b'{"b":1}', b'{"c":2}', b'{"b":1,"c":2}'), (b'{"b":1}', b'{"b":2}', b'{"b":2}'), (b'{"b":1}', b'{"b":null}', b"{}"),
                             (b"{}", b'{"b":1}', b'{"b":1}'), (b'{"b":1}', b"{}", b'{"b":1}'), (b"{}", b"{}", b"{}"),
                             (b"[1]", b'{"b":null}', b"{}"), (b'{"b":1}', b"[1]", b"[1]"), (b"1", b'{"b":2,"c":null}', b'{"b":2}'),
                             (b'{"b":1}', b"2", b"2"), (b'{"b":null,"c":1}', b'{"c":null}', b'{"b":null}')):
            self.check(self.members(31, t), self.members(31, p), self.members(31, wanted))

    def test_thirty_two_deep_where_nothing_is(self):
        for p, wanted in ((b'{"b":1}', b'{"b":1}'), (b'{"b":null}', b"{}"), (b"{}", b"{}"), (b'{"b":1,"c":null}', b'{"b":1}'),
                          (b"[null]", b"[null]")):
            for t in (b"null", b"{}", b'{"a":[]}', b'{"a":{"a":1}}'):
                self.check(t, self.members(31, p), self.members(31, wanted))

    def test_only_one_is_deep(self):
        deep = self.members(32, b"1")
        self.check_all(deep, [(b"{}", deep), (b'{"b":1}', deep[:-1] + b',"b":1}'), (b'{"a":null}', b"{}"), (b'{"a":2}', b'{"a":2}'), (b"3", b"3")])
        self.check(b'{"b":1}', deep, b'{"b":1,' + deep[1:])
        self.check(b'{"a":[1],"b":2}', deep, deep[:-1] + b',"b":2}')
        self.check(b'{"a":{"b":2}}', deep, b'{"a":{"b":2,' + deep[6:])
        lists = b"[" * 31 + b"]" * 31
        self.check(b'{"a":1}', b'{"a":' + lists + b"}", b'{"a":' + lists + b"}")
        self.check(b'{"a":' + lists + b"}", b'{"b":' + lists + b"}", b'{"a":' + lists + b',"b":' + lists + b"}")
        self.check(b"[" + lists + b"]", b"{}", b"{}")

    def test_deep_within_deep_stays(self):
        t = self.members(16, b'{"b":' * 16 + b"1" + b"}" * 16)
        self.check(t, self.members(16, b'{"b":{"c":2}}'), self.members(16, b'{"b":{"b":' + b'{"b":' * 14 + b"1" + b"}" * 14 + b',"c":2}}'))


class Names(Merged):
    def test_written_in_two_ways(self):
        self.check_all(b'{"a":1,"b":2}', [
            (b'{"\\u0061":3}', b'{"a":3,"b":2}'), (b'{"\\u0061":null}', b'{"b":2}'), (b'{"\\u0062":{"\\u0061":1}}', b'{"a":1,"b":{"a":1}}')])
        self.check_all(b'{"\\u0061":1,"\\u00e9":{"\\/":2},"\\ud83d\\ude00":3}', [
            (b'{"a":4}', b'{"a":4,"\xc3\xa9":{"/":2},"\xf0\x9f\x98\x80":3}'), (b'{"a":null,"\xf0\x9f\x98\x80":null}', b'{"\xc3\xa9":{"/":2}}'),
            (b'{"\xc3\xa9":{"/":null}}', b'{"a":1,"\xc3\xa9":{},"\xf0\x9f\x98\x80":3}'),
            (b'{"\\u00E9":{"\\u002f":{"\\u002F":5}}}', b'{"a":1,"\xc3\xa9":{"/":{"/":5}},"\xf0\x9f\x98\x80":3}')])

    def test_empty(self):
        self.check_all(b'{"":1,"a":{"":2}}', [
            (b'{"":null}', b'{"a":{"":2}}'), (b'{"":3}', b'{"":3,"a":{"":2}}'), (b'{"a":{"":null}}', b'{"":1,"a":{}}'),
            (b'{"":{"":{"":4}}}', b'{"":{"":{"":4}},"a":{"":2}}')])
        self.check(b'{"a":1}', b'{"":2}', b'{"a":1,"":2}')

    def test_quotes_and_backslashes(self):
        self.check_all(b'{"\\"":1,"\\\\":2,"\\\\\\"":3}', [
            (b'{"\\u0022":4}', b'{"\\"":4,"\\\\":2,"\\\\\\"":3}'), (b'{"\\u005c":null}', b'{"\\"":1,"\\\\\\"":3}'),
            (b'{"\\\\\\"":null,"\\"":null}', b'{"\\\\":2}'), (b'{"\\\\\\\\":5}', b'{"\\"":1,"\\\\":2,"\\\\\\"":3,"\\\\\\\\":5}'),
            (b'{"\\\\u0022":6}', b'{"\\"":1,"\\\\":2,"\\\\\\"":3,"\\\\u0022":6}')])

    def test_bytes_below_a_blank(self):
        self.check_all(b'{"\\n":1,"\\u0000":2,"\\u001f":3,"\\t\\b\\f\\r":4}', [
            (b'{"\\u000a":5}', b'{"\\u000a":5,"\\u0000":2,"\\u001f":3,"\\u0009\\u0008\\u000c\\u000d":4}'),
            (b'{"\\u000A":null,"\\u001F":null}', b'{"\\u0000":2,"\\u0009\\u0008\\u000c\\u000d":4}'),
            (b'{"\\u0009\\u0008\\u000C\\u000d":null,"\\u0000":{"\\u0001":1}}', b'{"\\u000a":1,"\\u0000":{"\\u0001":1},"\\u001f":3}'),
            (b'{"":6,"\\u0000\\u0000":7}',
             b'{"\\u000a":1,"\\u0000":2,"\\u001f":3,"\\u0009\\u0008\\u000c\\u000d":4,"":6,"\\u0000\\u0000":7}')])

    def test_almost_alike(self):
        t = b'{"a":1}'
        for name in (b"A", b"a ", b" a", b"aa", b"", b"\xc3\xa4", b"a\xcc\x88", b"\\u0000a", b"a\\u0000"):
            self.check(t, b'{"' + name + b'":null}', t)
            self.check(t, b'{"' + name + b'":2}', b'{"a":1,"' + name + b'":2}')

    def test_names_of_operations_and_pointers_say_nothing(self):
        self.check(b'{"op":"add","path":"/a"}', b'{"op":null,"/path":1,"path":"~"}', b'{"path":"~","/path":1}')
        self.check(b'{"a":{"b":1}}', b'{"a/b":null,"/a/b":2,"-":3,"0":4}', b'{"a":{"b":1},"/a/b":2,"-":3,"0":4}')


class WrittenAnew(Merged):
    def test_blanks_are_gone(self):
        self.check(b' { "a" : { "b" : 1 } , "c" : [ 1 , 2 ] } ', b'\t{ "a" : { "d" : [ 3 , { } ] } ,\r\n"e" : { "f" : null } }',
                   b'{"a":{"b":1,"d":[3,{}]},"c":[1,2],"e":{}}')

    def test_texts(self):
        self.check(b'{"a":"\\u0041\\n","b":"\\u00e9"}', b'{"c":"\\/\\\\\\"","b":"\\ud834\\udd1e\x7f"}',
                   b'{"a":"A\\u000a","b":"\xf0\x9d\x84\x9e\x7f","c":"/\\\\\\""}')

    def test_numbers(self):
        self.check(b'{"a":-9223372036854775808,"b":0}', b'{"b":9223372036854775807,"c":-1}',
                   b'{"a":-9223372036854775808,"b":9223372036854775807,"c":-1}')
        self.check(b'{"a":1}', b'{"a":true,"b":false}', b'{"a":true,"b":false}')
        self.check(b'{"a":true,"b":false}', b'{"a":1,"b":0}', b'{"a":1,"b":0}')

    def test_merged_twice(self):
        t, p, wanted = b'{"a":{"b":1,"c":2}}', b'{"a":{"b":null,"d":{"e":null}}}', b'{"a":{"c":2,"d":{}}}'
        self.check(t, p, wanted)
        self.check(wanted, p, wanted)


class TheRfcsOwn(Merged):
    """The examples of RFC 7396, but for where members stand, which it doesn't say."""

    def test_examples(self):
        for t, p, wanted in (
                (b'{"a":"b"}', b'{"a":"c"}', b'{"a":"c"}'), (b'{"a":"b"}', b'{"b":"c"}', b'{"a":"b","b":"c"}'), (b'{"a":"b"}', b'{"a":null}', b"{}"),
                (b'{"a":"b","b":"c"}', b'{"a":null}', b'{"b":"c"}'), (b'{"a":["b"]}', b'{"a":"c"}', b'{"a":"c"}'),
                (b'{"a":"c"}', b'{"a":["b"]}', b'{"a":["b"]}'), (b'{"a":{"b":"c"}}', b'{"a":{"b":"d","c":null}}', b'{"a":{"b":"d"}}'),
                (b'{"a":[{"b":"c"}]}', b'{"a":[1]}', b'{"a":[1]}'), (b'["a","b"]', b'["c","d"]', b'["c","d"]'), (b'{"a":"b"}', b'["c"]', b'["c"]'),
                (b'{"a":"foo"}', b"null", b"null"), (b'{"a":"foo"}', b'"bar"', b'"bar"'), (b'{"e":null}', b'{"a":1}', b'{"e":null,"a":1}'),
                (b"[1,2]", b'{"a":"b","c":null}', b'{"a":"b"}'), (b"{}", b'{"a":{"bb":{"ccc":null}}}', b'{"a":{"bb":{}}}')):
            self.check(t, p, wanted)


class NotWhatItIs(Merged):
    def test_not_operations(self):
        self.check(b'{"a":1}', b'[{"op":"remove","path":"/a"}]', b'[{"op":"remove","path":"/a"}]')

    def test_not_a_pointer(self):
        self.check(b'{"a":1}', b"/a", NOT_SECOND)
        self.check(b"/a", b'{"a":1}', NOT_DOCUMENT)


if __name__ == "__main__":
    unittest.main()
