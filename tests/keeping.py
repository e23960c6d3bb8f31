"""What every call keeps to, whatever it answers: it changes nothing that is handed in, keeps nothing, and prints nothing."""
import contextlib
import io


class Keeping:
    """Stands beside a TestCase that tells call(t, p), and CALLS: pairs of bytes to call it with."""

    def answer(self, t, p):
        return self.call(list(t), list(p))

    def test_handed_in_is_as_it_was(self):
        for t, p in self.CALLS:
            given_t, given_p = list(t), list(p)
            self.call(given_t, given_p)
            self.assertEqual((given_t, given_p), (list(t), list(p)))

    def test_one_list_handed_in_twice(self):
        for t, p in self.CALLS:
            for both in (t, p):
                given = list(both)
                self.assertEqual(self.call(given, given), self.answer(both, both))
                self.assertEqual(given, list(both))

    def test_nothing_is_kept(self):
        first = [self.answer(t, p) for t, p in self.CALLS]
        again = [self.answer(t, p) for t, p in self.CALLS]
        backward = [self.answer(t, p) for t, p in reversed(self.CALLS)]
        self.assertEqual(first, again)
        self.assertEqual(first, backward[::-1])

    def test_an_answer_is_the_callers_own(self):
        for t, p in self.CALLS:
            given_t, given_p = list(t), list(p)
            first = self.call(given_t, given_p)
            wanted = list(first)
            first[0] = 77
            first.append(0)
            self.assertEqual(self.call(given_t, given_p), wanted)

    def test_nothing_is_printed(self):
        out = io.StringIO()
        with contextlib.redirect_stdout(out), contextlib.redirect_stderr(out):
            for t, p in self.CALLS:
                self.answer(t, p)
        self.assertEqual(out.getvalue(), "")
