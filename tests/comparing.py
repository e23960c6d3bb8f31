"""What the tests of same share: checks of an answer, and one told without the program."""
import json

from asking import Checked, ask_same, expected_of_two

SAME = 1
OTHER = 0


def are_same(value, other):
    return int(json.dumps(value, sort_keys=True) == json.dumps(other, sort_keys=True))


def expected_same(t, p):
    return expected_of_two(t, p, 32, are_same)


class Told(Checked):
    def check(self, t, p, wanted):
        self.check_answer(ask_same, t, p, wanted)

    def check_both_ways(self, t, p, wanted):
        self.check(t, p, wanted)
        self.check(p, t, wanted)

    def check_same(self, t, others):
        for p in others:
            self.check_both_ways(t, p, SAME)

    def check_other(self, t, others):
        for p in others:
            self.check_both_ways(t, p, OTHER)
