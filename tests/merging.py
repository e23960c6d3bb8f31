"""What the tests of merge share: checks of an answer."""
from asking import Checked, ask_merge


class Merged(Checked):
    def check(self, t, p, wanted):
        self.check_answer(ask_merge, t, p, wanted)

    def check_all(self, t, table):
        for p, wanted in table:
            self.check(t, p, wanted)
