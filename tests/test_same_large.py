"""Promise 4, same: inputs of the greatest length."""
import random
import unittest

from asking import NOT_DOCUMENT, NOT_SECOND, write
from comparing import OTHER, SAME, Told

LONGEST = 65536


def filled(document):
    """The same document, with blanks behind it up to the greatest length."""
    return document + b" " * (LONGEST - len(document))


def members(rows):
    return b"{" + b",".join(rows) + b"}"


class VeryMany(Told):
    ROWS = [b'"%04x":%d' % (number, number % 10) for number in range(7200)]
    ORDERS = (ROWS[::-1], ROWS[1::2] + ROWS[::2], ROWS[3600:] + ROWS[:3600], random.Random(4).sample(ROWS, len(ROWS)))

    def test_in_another_order(self):
        t = filled(members(self.ROWS))
        self.assertEqual(len(t), LONGEST)
        self.check(t, t, SAME)
        for order in self.ORDERS:
            self.check_both_ways(t, filled(members(order)), SAME)

    def test_one_is_not_alike(self):
        t = members(self.ROWS)
        order = self.ORDERS[-1]
        for place in (0, 3599, 7199):
            for row in (b'"%04x":' % 8000 + order[place][7:], order[place][:7] + b"-1"):
                self.check_both_ways(t, members(order[:place] + [row] + order[place + 1:]), OTHER)
        self.check_both_ways(t, members(order[1:]), OTHER)
        self.check_both_ways(t, members(order[:-1]), OTHER)

    def test_deep_within(self):
        rows = self.ROWS[:7000]
        for first, last in ((b'{"a":', b"}"), (b"[", b"]")):
            t = first * 31 + members(rows) + last * 31
            self.check_both_ways(t, first * 31 + members(rows[::-1]) + last * 31, SAME)
            self.check_both_ways(t, first * 31 + members(rows[::-1][:-1] + [b'"0000":1']) + last * 31, OTHER)

    def test_members_in_each(self):
        rows = [b'"%04x":{"a":1,"b":%d}' % (number, number % 10) for number in range(3000)]
        other = [b'"%04x":{"b":%d,"a":1}' % (number, number % 10) for number in range(3000)]
        self.check_both_ways(filled(members(rows)), filled(members(other[::-1])), SAME)
        self.check_both_ways(filled(members(rows)), filled(members(other[1:] + [b'"0000":{"b":0,"a":2}'])), OTHER)
        listed = [row[7:] for row in rows]
        self.check_both_ways(b"[" + b",".join(listed) + b"]", b"[" + b",".join(row[7:] for row in other) + b"]", SAME)
        self.check_both_ways(b"[" + b",".join(listed) + b"]", b"[" + b",".join(row[7:] for row in other[::-1]) + b"]", OTHER)

    def test_names_written_in_two_ways(self):
        rows = [b'"a%03x":1' % number for number in range(4000)]
        other = [b'"\\u0061%03x":1' % number for number in range(4000)]
        self.check_both_ways(members(rows), members(other[::-1]), SAME)


class VeryLong(Told):
    def test_texts(self):
        t = b'"' + b"a" * 65534 + b'"'
        self.assertEqual(len(t), LONGEST)
        self.check(t, t, SAME)
        for p in (b'"' + b"a" * 65533 + b'b"', b'"b' + b"a" * 65533 + b'"', b'"' + b"a" * 65533 + b'"', b'""'):
            self.check_both_ways(t, p, OTHER)
        self.check_both_ways(b'"' + b"\\n" * 10900 + b'"', b'"' + b"\\u000a" * 10900 + b'"', SAME)
        self.check_both_ways(b'"' + b"\xc3\xa9" * 10900 + b'"', b'"' + b"\\u00e9" * 10900 + b'"', SAME)

    def test_names(self):
        t = b'{"' + b"a" * 65530 + b'":1}'
        self.assertEqual(len(t), LONGEST)
        self.check(t, t, SAME)
        self.check_both_ways(t, b'{"' + b"a" * 65529 + b'b":1}', OTHER)
        self.check_both_ways(t, t.replace(b":1", b":2"), OTHER)

    def test_lists(self):
        t = b"[" + b"1," * 32766 + b"23]"
        self.assertEqual(len(t), LONGEST)
        self.check(t, t, SAME)
        for p in (t[:-3] + b"24]", b"[2" + t[2:], t[:-4] + b"]", b"[]", b"[23," + t[1:-4] + b"]"):
            self.check_both_ways(t, p, OTHER)
        t = b"[" + b"{}," * 21844 + b"[]]"
        self.check(t, t, SAME)
        self.check_both_ways(t, t[:-3] + b"{}]", OTHER)

    def test_blanks(self):
        self.check_both_ways(b"1" + b"\n" * 65535, b" " * 65535 + b"1", SAME)

    def test_long_when_written(self):
        t = b'{"a":"' + b"\\n" * 32700 + b'","b":"\\n"}'
        self.check(t, t, SAME)
        self.check_both_ways(t, b'{"b":"\\n","a":"' + b"\\n" * 32700 + b'"}', SAME)
        self.check_both_ways(t, b'{"b":"\\n","a":"' + b"\\n" * 32699 + b'"}', OTHER)

    def test_wrong_at_the_very_end(self):
        t = b"[" + b"1," * 32766 + b"23]"
        self.check(t, t[:-1] + b"}", NOT_SECOND)
        self.check(t[:-1] + b"}", t, NOT_DOCUMENT)
        self.check(t, t[:-2] + b",]", NOT_SECOND)


class Chosen(Told):
    def shuffled(self, choice, value):
        if isinstance(value, dict):
            return {name: self.shuffled(choice, value[name]) for name in choice.sample(list(value), len(value))}
        if isinstance(value, list):
            return [self.shuffled(choice, item) for item in value]
        return value

    def test_shuffled(self):
        choice = random.Random(7)
        for _ in range(4):
            value = {f"{number:x}": choice.choice([1, True, None, {"a": 1, "b": {"c": None, "d": "x"}}, [{"e": 1, "f": []}]])
                     for number in choice.sample(range(5000), 1800)}
            self.check_both_ways(write(value), write(self.shuffled(choice, value)), SAME)
            changed = dict(value)
            changed[choice.choice(list(value))] = 2
            self.check_both_ways(write(value), write(self.shuffled(choice, changed)), OTHER)


if __name__ == "__main__":
    unittest.main()
