"""Promise 1, at: ordinary documents and pointers, the edges that the document names, and wrong ones."""
import unittest

from asking import NOT_DOCUMENT, Checked, ask_at
from keeping import Keeping
from patchwords.documents import at

NOT_POINTER = -4
NOWHERE = -5

# No beginning of it is a document, as it ends with the brace that it begins with.
SAMPLE = b'\t{ "a" : [ 1 , -20 , "\\u00e9\\ud83d\\ude00\\n" , { } , [ ] ] ,\r\n "b\xc3\xa9" : { "" : null , "c" : true , "d" : false } }'


class Asked(Checked):
    def check(self, t, p, wanted):
        self.check_answer(ask_at, t, p, wanted)

    def check_all(self, rows):
        for t, p, wanted in rows:
            self.check(t, p, wanted)

    def check_written(self, rows):
        for t, wanted in rows:
            self.check(t, b"", wanted)

    def check_refused(self, documents):
        for t in documents:
            self.check(t, b"", NOT_DOCUMENT)


class TheForm(Keeping, unittest.TestCase):
    CALLS = [(SAMPLE, b""), (SAMPLE, b"/a"), (SAMPLE, b"/a/2"), (SAMPLE, b"/b\xc3\xa9/c"), (SAMPLE, b"/x"), (SAMPLE, b"~"), (b'{"a":1}', b"/a"),
             (b'{"a":1', b"/a"), (b'{"a":1}', b"a"), (b"[]", b"/0"), (b"", b"")]

    def call(self, t, p):
        return at(t, p)

    def test_answer_is_length_then_bytes(self):
        self.assertEqual(at([91, 49, 44, 32, 50, 93], []), [5, 91, 49, 44, 50, 93])
        self.assertEqual(at([91, 49, 44, 32, 50, 93], [47, 49]), [1, 50])

    def test_refusals_stand_alone(self):
        self.assertEqual(at([], []), [-3])
        self.assertEqual(at([49], [49]), [-4])
        self.assertEqual(at([49], [47]), [-5])


class Leading(Asked):
    def test_all_of_it(self):
        self.check_all([(value, b"", value) for value in (
            b"null", b"true", b"false", b"0", b"7", b"-1", b"1234567890", b'""', b'"a"', b"[]", b"{}",
            b"[null,true,false,0,\"\",[],{}]", b'{"a":{"b":[{"c":1}]}}')])

    def test_members(self):
        t = b'{"a":1,"b":{"c":[2]},"":3," ":4,"0":5,"-":6,"01":7,"A":8}'
        self.check_all([
            (t, b"/a", b"1"), (t, b"/b", b'{"c":[2]}'), (t, b"/b/c", b"[2]"), (t, b"/b/c/0", b"2"), (t, b"/", b"3"),
            (t, b"/ ", b"4"), (t, b"/0", b"5"), (t, b"/-", b"6"), (t, b"/01", b"7"), (t, b"/A", b"8")])

    def test_empty_names(self):
        t = b'{"":{"":{"a":1,"":2}}}'
        self.check_all([(t, b"/", b'{"":{"a":1,"":2}}'), (t, b"//", b'{"a":1,"":2}'), (t, b"///a", b"1"),
                        (t, b"//a", NOWHERE), (t, b"///", b"2"), (t, b"////", NOWHERE), (b'{"a":{"":1}}', b"/a/", b"1")])

    def test_places(self):
        t = b'[10,[20,21],{"a":[30]},40,50,60,70,80,90,100,110,120]'
        self.check_all([(t, b"/0", b"10"), (t, b"/1", b"[20,21]"), (t, b"/1/1", b"21"), (t, b"/2/a/0", b"30"),
                        (t, b"/9", b"100"), (t, b"/10", b"110"), (t, b"/11", b"120"), (t, b"/12", NOWHERE)])

    def test_tildes(self):
        t = b'{"a/b":1,"m~n":2,"~1":3,"~0":4,"/":5,"~":6,"/~/":7,"~~":8,"01":9}'
        self.check_all([
            (t, b"/a~1b", b"1"), (t, b"/m~0n", b"2"), (t, b"/~01", b"3"), (t, b"/~00", b"4"), (t, b"/~1", b"5"),
            (t, b"/~0", b"6"), (t, b"/~1~0~1", b"7"), (t, b"/~0~0", b"8"), (t, b"/a/b", NOWHERE), (t, b"/01", b"9")])

    def test_names_written_with_backslashes(self):
        self.check_all([
            (b'{"\\u0061":1}', b"/a", b"1"), (b'{"\\"":1}', b'/"', b"1"), (b'{"\\\\":1}', b"/\\", b"1"),
            (b'{"\\/":1}', b"/~1", b"1"), (b'{"\\u002F":1}', b"/~1", b"1"), (b'{"\\u007e":1}', b"/~0", b"1"),
            (b'{"\\n":1}', b"/\n", b"1"), (b'{"\\u0000":1}', b"/\0", b"1"), (b'{"\\u00e9":1}', b"/\xc3\xa9", b"1"),
            (b'{"\\ud83d\\ude00":1}', b"/\xf0\x9f\x98\x80", b"1"), (b'{"\\u20ac":1}', b"/\xe2\x82\xac", b"1"),
            (b'{"a":1}', b"/\\u0061", NOWHERE), (b'{"\\\\u0061":1}', b"/\\u0061", b"1")])

    def test_names_that_are_not_utf8(self):
        t = b'{"\xc3\xa9":1}'
        self.check_all([(t, b"/\xc3\xa9", b"1"), (t, b"/\xc3", NOWHERE), (t, b"/\xff", NOWHERE), (t, b"/\xe9", NOWHERE),
                        (t, b"/\xed\xa0\x80", NOWHERE), (t, b"/\xc1\xa1", NOWHERE), (b'{"a":1}', b"/\xc1\xa1", NOWHERE)])

    def test_what_is_found_is_written(self):
        self.check_all([(SAMPLE, b"/a", b'[1,-20,"\xc3\xa9\xf0\x9f\x98\x80\\u000a",{},[]]'),
                        (SAMPLE, b"/b\xc3\xa9", b'{"":null,"c":true,"d":false}'), (SAMPLE, b"/b\xc3\xa9/", b"null"),
                        (SAMPLE, b"/a/2", b'"\xc3\xa9\xf0\x9f\x98\x80\\u000a"'), (SAMPLE, b"/a/3", b"{}")])


class Nowhere(Asked):
    def test_no_such_member(self):
        self.check_all([(b'{"a":1}', p, NOWHERE) for p in (b"/", b"/b", b"/A", b"/aa", b"/a ", b"/0", b"/-", b"/a/", b"//a")])
        self.check(b"{}", b"/", NOWHERE)

    def test_no_such_place(self):
        self.check_all([(b"[1,2]", p, NOWHERE) for p in (
            b"/2", b"/3", b"/10", b"/-", b"/", b"/00", b"/01", b"/-1", b"/-0", b"/+1", b"/ 1", b"/1 ", b"/0x0", b"/1.0", b"/1e0",
            b"/a", b"/:", b"/~1", b"/~0", b"/\xd9\xa1", b"/\xff", b"/4294967296", b"/18446744073709551617")])
        self.check_all([(b"[]", p, NOWHERE) for p in (b"/0", b"/-", b"/", b"/00")])

    def test_zero_in_front_where_the_place_is_there(self):
        t = b"[0,1,2,3,4,5,6,7,8,9,10,11]"
        self.check_all([(t, b"/010", NOWHERE), (t, b"/00", NOWHERE), (t, b"/1", b"1"), (t, b"/0", b"0")])

    def test_through_what_has_nothing_in_it(self):
        for value in (b"null", b"true", b"false", b"0", b"12", b'""', b'"abc"'):
            for p in (b"/", b"/0", b"/a", b"/-"):
                self.check(value, p, NOWHERE)
                self.check(b'{"x":' + value + b"}", b"/x" + p, NOWHERE)

    def test_part_of_the_way(self):
        self.check(b'{"a":{"b":1}}', b"/a/c/d", NOWHERE)
        self.check(b'{"a":{"b":1}}', b"/b", NOWHERE)


class Written(Asked):
    def test_blanks_are_gone(self):
        blanks = b" \t\n\r"
        spaced = b"{ \"a b\" : [ 1 , 2 , [ ] , { } ] , \"\" : null }"
        self.check_written([(spaced, b'{"a b":[1,2,[],{}],"":null}')])
        wide = b"".join([blanks, b"[", blanks, b"1", blanks, b",", blanks, b"{", blanks, b'"a"', blanks, b":", blanks,
                         b"true", blanks, b",", blanks, b'"b"', blanks, b":", blanks, b'""', blanks, b"}", blanks,
                         b"]", blanks])
        self.check_written([(wide, b'[1,{"a":true,"b":""}]')])

    def test_members_as_they_stand(self):
        self.check_written([(b'{"b":1,"a":2,"c":3,"B":4,"10":5,"9":6}', b'{"b":1,"a":2,"c":3,"B":4,"10":5,"9":6}')])

    def test_backslashes(self):
        self.check_written([
            (b'"\\""', b'"\\""'), (b'"\\\\"', b'"\\\\"'), (b'"\\/"', b'"/"'), (b'"/"', b'"/"'), (b'"\\b"', b'"\\u0008"'),
            (b'"\\f"', b'"\\u000c"'), (b'"\\n"', b'"\\u000a"'), (b'"\\r"', b'"\\u000d"'), (b'"\\t"', b'"\\u0009"'),
            (b'"\\u0022"', b'"\\""'), (b'"\\u005c"', b'"\\\\"'), (b'"\\u002f"', b'"/"'), (b'"\\u0041"', b'"A"'),
            (b'"\\\\n"', b'"\\\\n"'), (b'"\\\\\\""', b'"\\\\\\""'), (b'"a\\tb\\tc"', b'"a\\u0009b\\u0009c"')])

    def test_bytes_below_a_blank(self):
        for number in range(0x20):
            wanted = b'"\\u00%02x"' % number
            self.check_written([(b'"\\u00%02x"' % number, wanted), (b'"\\u00%02X"' % number, wanted)])
        self.check_written([(b'"\\u0020"', b'" "'), (b'"\\u007f"', b'"\x7f"'), (b'"\x7f"', b'"\x7f"')])

    def test_members_names_are_written_so_too(self):
        self.check_written([(b'{"\\n\\/\\u00e9\\"":1}', b'{"\\u000a/\xc3\xa9\\"":1}')])

    def test_characters_by_number(self):
        for number in (0x7F, 0x80, 0xE9, 0x7FF, 0x800, 0xFFF, 0x1000, 0x20AC, 0xABCD, 0xD7FF, 0xE000, 0xFEFF, 0xFFFE, 0xFFFF):
            wanted = b'"' + chr(number).encode("utf-8") + b'"'
            self.check_written([(b'"\\u%04x"' % number, wanted), (b'"\\u%04X"' % number, wanted), (wanted, wanted)])

    def test_characters_by_two_halves(self):
        for number in (0x10000, 0x103FF, 0x10400, 0x1F600, 0x3FFFF, 0x40000, 0xFFFFF, 0x100000, 0x10FC00, 0x10FFFF):
            high = 0xD800 + (number - 0x10000) // 0x400
            low = 0xDC00 + (number - 0x10000) % 0x400
            wanted = b'"' + chr(number).encode("utf-8") + b'"'
            self.check_written([(b'"\\u%04x\\u%04X"' % (high, low), wanted), (wanted, wanted)])

    def test_two_pairs_of_halves(self):
        self.check_written([(b'"\\ud83d\\ude00\\ud83d\\ude01"', b'"\xf0\x9f\x98\x80\xf0\x9f\x98\x81"')])

    def test_true_is_not_one(self):
        self.check_written([(b"[1,true,0,false,null]", b"[1,true,0,false,null]")])


class Numbers(Asked):
    def test_ordinary(self):
        self.check_written([(t, t) for t in (
            b"0", b"1", b"9", b"10", b"-1", b"-9", b"-10", b"1000000000000000000", b"9007199254740993", b"-9007199254740993")])

    def test_smallest_and_largest(self):
        self.check_written([(t, t) for t in (b"9223372036854775807", b"-9223372036854775808", b"9223372036854775799",
                                             b"-9223372036854775807")])
        self.check_refused([b"9223372036854775808", b"-9223372036854775809", b"9223372036854775810", b"10000000000000000000",
                            b"-10000000000000000000", b"18446744073709551616", b"18446744073709551615", b"-18446744073709551615"])

    def test_not_whole_numbers(self):
        self.check_refused([b"-0", b"00", b"01", b"-01", b"-00", b"007", b"-", b"--1", b"+1", b"- 1", b"-a", b"1.0", b"1.", b".5",
                            b"1e0", b"1E5", b"0e0", b"0x10", b"1_0", b"1 0", b"1-", b"-1-1", b"NaN", b"Infinity", b"-Infinity",
                            b"\xd9\xa1", b"\xef\xbc\x91", b"1a", b"1:", b"1/"])

    def test_in_lists(self):
        self.check_written([(b"[0,-1 , 2]", b"[0,-1,2]")])
        self.check_refused([b"[-0]", b"[01]", b"[0 1]", b"[-]", b"[1.5]"])


class Texts(Asked):
    def test_bytes_below_a_blank_do_not_stand(self):
        for number in range(0x20):
            self.check_refused([b'"' + bytes([number]) + b'"', b'{"' + bytes([number]) + b'":1}',
                                b'"\\' + bytes([number]) + b'"'])

    def test_what_a_backslash_stands_before(self):
        for number in range(256):
            if number not in b'"\\/bfnrtu':
                self.check_refused([b'"\\' + bytes([number]) + b'"', b'"\\' + bytes([number]) + b'0041"'])

    def test_four_digits_of_sixteen(self):
        self.check_written([(b'"\\uAbCd\\uaBcD"', b'"\xea\xaf\x8d\xea\xaf\x8d"'), (b'"\\u00410"', b'"A0"')])
        self.check_refused([b'"\\u"', b'"\\u0"', b'"\\u00"', b'"\\u004"', b'"\\u004g"', b'"\\u004G"', b'"\\u004`"', b'"\\u004@"',
                            b'"\\u004/"', b'"\\u004:"', b'"\\u 041"', b'"\\u+041"', b'"\\u-041"', b'"\\u0x41"', b'"\\U0041"',
                            b'"\\u{41}"', b'"\\u00\xc3\xa9"', b'"\\x41"'])

    def test_one_half_alone(self):
        for half in (b"\\ud800", b"\\uDBFF", b"\\udc00", b"\\uDFFF"):
            self.check_refused([b'"' + half + b'"', b'"a' + half + b'b"', b'"' + half + b'\\n"', b'"' + half + b'\\\\"',
                                b'"' + half + b'\\u0041"', b'{"' + half + b'":1}', b'"' + half + half + b'"',
                                b'"' + half + b" " + b'\\udc00"', b'"' + half + b'\\ue000"', b'"' + half + b'\\udbff"'])
        self.check_refused([b'"\\udc00\\ud800"', b'"\\ud800\\ud800\\udc00"', b'"\\ud800\\udc00\\udc00"', b'"\\ud800udc00"',
                            b'"\\ud800\\Udc00"', b'"\\ud800\xed\xb0\x80"', b'"\\ud800\\udc0"'])

    def test_open_texts(self):
        self.check_refused([b'"', b'"a', b'"\\"', b'"\\', b'"\\u', b'"\\u0041', b'"\\ud800\\udc00', b"'a'", b"a", b'a"'])


class Utf8(Asked):
    def refused_everywhere(self, found):
        self.check_refused([b'"' + found + b'"', b'{"' + found + b'":1}', b"[" + found + b"]", found, b'"a"' + found,
                            found + b'"a"', b'"a' + found + b'a"'])

    def test_edges_that_stand(self):
        for text in ("\u0080", "\u07ff", "\u0800", "\u0fff", "\u1000", "\ucfff", "\ud7ff", "\ue000", "\uffff", "\U00010000",
                     "\U0003ffff", "\U00040000", "\U000fffff", "\U00100000", "\U0010ffff"):
            found = b'"' + text.encode("utf-8") + b'"'
            self.check_written([(found, found)])

    def test_longer_than_it_has_to_be(self):
        for found in (b"\xc0\x80", b"\xc0\xaf", b"\xc1\xbf", b"\xe0\x80\x80", b"\xe0\x81\x81", b"\xe0\x9f\xbf",
                      b"\xf0\x80\x80\x80", b"\xf0\x80\x81\x81", b"\xf0\x8f\xbf\xbf", b"\xf8\x88\x80\x80\x80",
                      b"\xfc\x84\x80\x80\x80\x80"):
            self.refused_everywhere(found)

    def test_surrogates(self):
        for found in (b"\xed\xa0\x80", b"\xed\xaf\xbf", b"\xed\xb0\x80", b"\xed\xbf\xbf", b"\xed\xa0\xbd\xed\xb8\x80"):
            self.refused_everywhere(found)

    def test_above_all_characters(self):
        for found in (b"\xf4\x90\x80\x80", b"\xf4\xbf\xbf\xbf", b"\xf5\x80\x80\x80", b"\xf7\xbf\xbf\xbf", b"\xfe", b"\xff"):
            self.refused_everywhere(found)

    def test_cut_or_broken(self):
        for whole in (b"\xc3\xa9", b"\xe2\x82\xac", b"\xf0\x9f\x98\x80"):
            for size in range(1, len(whole)):
                self.refused_everywhere(whole[:size])
                self.refused_everywhere(whole[:size] + b"\xc3\xa9")
            for place in range(1, len(whole)):
                for wrong in (b"\x7f", b"\xc0", b"A", b"\0"):
                    self.refused_everywhere(whole[:place] + wrong + whole[place + 1:])
            self.refused_everywhere(whole[1:])

    def test_characters_outside_of_quotes(self):
        self.check_refused([b"\xc3\xa9", b"[\xc3\xa9]", b"\xef\xbb\xbf1", b"1\xc2\xa0", b"\xc2\xa01", b"[1\xe2\x80\xa8]"])


class Shape(Asked):
    def test_nothing_or_blanks_alone(self):
        self.check_refused([b"", b" ", b"\t", b"\n", b"\r", b" \t\n\r "])

    def test_other_blanks(self):
        self.check_refused([bytes([number]) + b"1" for number in range(256) if number not in b" \t\n\r-123456789"])
        self.check_refused([b"1" + bytes([number]) for number in range(256) if number not in b" \t\n\r0123456789"])

    def test_words(self):
        self.check_refused([b"nul", b"nulll", b"NULL", b"Null", b"n", b"tru", b"truee", b"True", b"fals", b"falsee", b"False",
                            b"nullnull", b"null true", b"n ull", b"undefined", b"none", b"None"])

    def test_lists(self):
        self.check_refused([b"[", b"]", b"[1", b"[1,", b"[1,]", b"[,1]", b"[,]", b"[1,,2]", b"[1 2]", b"[1:2]", b"[1}", b"[[]", b"[]]",
                            b"[1];", b'["a":1]', b"(1)"])

    def test_members(self):
        self.check_refused([b"{", b"}", b'{"a"', b'{"a":', b'{"a":1', b'{"a":1,', b'{"a":1,}', b'{,"a":1}', b"{,}", b'{"a"}',
                            b'{"a",1}', b'{"a" 1}', b'{"a"::1}', b'{"a":1,,"b":2}', b'{"a":1 "b":2}', b'{"a":1]', b"{a:1}",
                            b"{1:1}", b"{null:1}", b"{[]:1}", b"{:1}", b'{"a":}', b"{1}", b'{"a":1;"b":2}', b"{}}"])

    def test_cut_short_at_every_byte(self):
        self.assertIsInstance(ask_at(SAMPLE), bytes)
        for size in range(len(SAMPLE)):
            self.check(SAMPLE[:size], b"", NOT_DOCUMENT)
            self.check(SAMPLE[:size], b"/a", NOT_DOCUMENT)

    def test_something_behind_the_value(self):
        for value in (b"null", b"1", b'""', b"[]", b"{}", SAMPLE):
            for more in (b"x", b",", b"]", b"}", b"null", b'""', b"[]", b" {}", b"\0", b":", b"//", b"\n1 2"):
                self.check(value + more, b"", NOT_DOCUMENT)

    def test_a_name_twice(self):
        self.check_refused([b'{"a":1,"a":1}', b'{"a":1,"a":2}', b'{"a":1,"b":2,"a":3}', b'{"":1,"":2}', b'[{"a":1,"a":2}]',
                            b'{"x":{"a":1,"a":2}}', b'{"a":null,"a":null}', b'{"a":1,"\\u0061":2}', b'{"\\n":1,"\\u000a":2}',
                            b'{"\\u000A":1,"\\u000a":2}', b'{"/":1,"\\/":2}', b'{"\xc3\xa9":1,"\\u00e9":2}',
                            b'{"\xf0\x9f\x98\x80":1,"\\ud83d\\ude00":2}', b'{"\\"":1,"\\u0022":2}'])

    def test_a_name_once_in_each(self):
        self.check_written([(t, t) for t in (b'{"a":{"a":{"a":1}}}', b'[{"a":1},{"a":1}]', b'{"a":1,"A":2,"aa":3,"":4,"a ":5}',
                                             b'{"\xc3\xa9":1,"e\xcc\x81":2}', b'{"x":{"a":1},"y":{"a":1},"a":1}')])


class Nested(Asked):
    def both(self, deep):
        mixed = b"".join([b"[", b'{"a":'][k % 2] for k in range(deep - 1))
        closing = b"".join([b"]", b"}"][k % 2] for k in reversed(range(deep - 1)))
        return [b"[" * deep + b"]" * deep, b'{"a":' * (deep - 1) + b"{}" + b"}" * (deep - 1), mixed + b"[]" + closing,
                b"[" * deep + b"1" + b"]" * deep, b'{"a":' * deep + b"null" + b"}" * deep]

    def test_thirty_two_deep(self):
        self.check_written([(t, t) for t in self.both(32)])
        self.check(self.both(32)[3], b"/0" * 32, b"1")
        self.check(self.both(32)[4], b"/a" * 32, b"null")
        self.check(self.both(32)[3], b"/0" * 33, NOWHERE)

    def test_thirty_three_deep(self):
        self.check_refused(self.both(33))
        self.check(self.both(33)[3], b"/0" * 33, NOT_DOCUMENT)

    def test_deep_where_it_is_not_led_to(self):
        deep = self.both(32)[3]
        self.check(b'{"a":1,"b":' + deep + b"}", b"/a", NOT_DOCUMENT)

    def test_many_beside_one_another(self):
        beside = b"[" + b",".join([b"[[],{}]"] * 100) + b"]"
        self.check_written([(beside, beside)])
        closed = b"[" + b",".join([b"[" * 31 + b"]" * 31] * 3) + b"]"
        self.check_written([(closed, closed)])


class Large(Asked):
    def test_texts(self):
        t = b'"' + b"a" * 65534 + b'"'
        self.check(t, b"", t)
        self.check(t[:-1] + b"a", b"", NOT_DOCUMENT)

    def test_lists(self):
        t = b"[" + b"1," * 32766 + b"23]"
        self.assertEqual(len(t), 65536)
        self.check(t, b"", t)
        self.check(t, b"/32765", b"1")
        self.check(t, b"/32766", b"23")
        self.check(t, b"/32767", NOWHERE)
        self.check(t, b"/032766", NOWHERE)

    def test_members(self):
        t = b"{" + b",".join(b'"%d":%d' % (k, k) for k in range(4900)) + b"}"
        self.assertLessEqual(len(t), 65536)
        self.check(t, b"", t)
        self.check(t, b"/4899", b"4899")
        self.check(t[:-1] + b',"0":1}', b"", NOT_DOCUMENT)

    def test_blanks(self):
        self.check(b" " * 65535 + b"1", b"", b"1")
        self.check(b"1" + b"\n" * 65535, b"", b"1")
        self.check(b"\t" * 65536, b"", NOT_DOCUMENT)

    def test_the_longest_answer_is_not_too_large(self):
        self.check(b'"' + b"\\n" * 32767 + b'"', b"", b'"' + b"\\u000a" * 32767 + b'"')

    def test_open_brackets_alone(self):
        self.check(b"[" * 65536, b"", NOT_DOCUMENT)
        self.check(b'{"":' * 16384, b"", NOT_DOCUMENT)
        self.check(b"[" * 32768 + b"]" * 32768, b"", NOT_DOCUMENT)

    def test_digits(self):
        self.check(b"9" * 65536, b"", NOT_DOCUMENT)
        self.check(b"-" + b"1" * 65535, b"", NOT_DOCUMENT)
        self.check(b"0" * 65536, b"", NOT_DOCUMENT)

    def test_pointers(self):
        t = b'{"' + b"a" * 65530 + b'":1}'
        self.assertEqual(len(t), 65536)
        self.check(t, b"/" + b"a" * 65530, b"1")
        self.check(t, b"/" + b"a" * 65535, NOWHERE)
        self.check(b"[0]", b"/" + b"1" * 65535, NOWHERE)
        self.check(b"[0]", b"/" + b"0" * 65535, NOWHERE)
        self.check(b"[0]", b"/" * 65536, NOWHERE)
        self.check(b"[0]", b"/0" * 32768, NOWHERE)
        self.check(b"[0]", b"/" * 65535 + b"~", NOT_POINTER)
        self.check(b'{"' + b"~" * 32767 + b'":1}', b"/" + b"~0" * 32767, b"1")
        self.check(b"[0]", b"/" + b"a" * 65534 + b"~", NOT_POINTER)


class WrongPointers(Asked):
    def test_no_slash_in_front(self):
        for p in (b"a", b"0", b" ", b" /a", b"a/", b"#", b"#/a", b"-", b"~0", b"~1", b"~1a", b"\0", b"\xff", b'"/a"', b"\\/a"):
            self.check(b'{"a":1}', p, NOT_POINTER)
        for number in range(256):
            if number != 0x2F:
                self.check(b"[1]", bytes([number]), NOT_POINTER)

    def test_tildes_that_do_not_stand(self):
        for number in range(256):
            if number not in b"01":
                self.check(b'{"a":1}', b"/~" + bytes([number]), NOT_POINTER)
                self.check(b'{"a":1}', b"/a~" + bytes([number]) + b"0", NOT_POINTER)
        for p in (b"/~", b"/a~", b"/~/", b"/~/0", b"/~~", b"/~~0", b"/~0~", b"/~01~", b"/~ 0", b"//~", b"/a/~/b"):
            self.check(b'{"a":1}', p, NOT_POINTER)

    def test_wrong_behind_nowhere(self):
        self.check_all([(b'{"a":1}', b"/x/~", NOT_POINTER), (b"[1]", b"/5/~2", NOT_POINTER), (b"1", b"/0/0/~x", NOT_POINTER),
                        (b"null", b"x", NOT_POINTER)])

    def test_document_and_pointer_wrong(self):
        for t in (b"", b" ", b"[", b"{", b"01", b"[1,]", b'"\xff"', b"1 1", b"[" * 33 + b"]" * 33):
            for p in (b"", b"/", b"a", b"~", b"/~", b"/x"):
                self.check(t, p, NOT_DOCUMENT)


if __name__ == "__main__":
    unittest.main()
