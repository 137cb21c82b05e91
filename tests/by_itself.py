"""What holds of every call, whatever it answers: each is made by itself."""

import contextlib
import copy
import io


class Kept(list):
    """A list that lets no one change it, not for a while either."""

    def refused(self, *given):
        raise AssertionError(given)

    append = extend = insert = pop = remove = clear = sort = reverse = refused
    __setitem__ = __delitem__ = __iadd__ = __imul__ = refused


class CallsByItself:
    """Beside unittest.TestCase: CALLS are the arguments of some calls, and called makes one of them."""

    CALLS = []

    def called(self, *given):
        raise NotImplementedError

    def answers(self, calls):
        return [self.called(*copy.deepcopy(given)) for given in calls]

    def test_what_is_handed_in_stays_as_it_was(self):
        for given in self.CALLS:
            handed = copy.deepcopy(given)
            self.called(*handed)
            self.assertEqual(handed, given)

    def test_what_is_handed_in_is_not_changed_for_a_while(self):
        for given in self.CALLS:
            kept = [Kept(numbers) if isinstance(numbers, list) else numbers for numbers in given]
            self.assertEqual(self.called(*kept), self.called(*copy.deepcopy(given)))

    def test_second_call_answers_as_the_first(self):
        first = self.answers(self.CALLS)
        self.assertEqual(self.answers(self.CALLS), first)
        self.assertEqual(self.answers(self.CALLS[::-1]), first[::-1])

    def test_answer_is_the_callers_own(self):
        expected = self.answers(self.CALLS)
        for given in self.CALLS:
            self.called(*copy.deepcopy(given)).append(7)
        self.assertEqual(self.answers(self.CALLS), expected)

    def test_prints_nothing(self):
        with contextlib.redirect_stdout(io.StringIO()) as out, contextlib.redirect_stderr(io.StringIO()) as err:
            self.answers(self.CALLS)
        self.assertEqual(out.getvalue() + err.getvalue(), "")
