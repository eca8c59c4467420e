"""What the tests of several calls share: it holds no test that runs by itself.

These classes stand under no TestCase, so that they run only where a test file
mixes them into one of its own.
"""

import contextlib
import io

HIGHEST = 4294967295


def forbidden(*args, **kwargs):
    raise AssertionError("what was handed in was changed")


class Untouched(list):
    """A list that fails as soon as it is changed, be it for a while only."""


for method in ("__setitem__", "__delitem__", "__iadd__", "__imul__", "append", "clear", "extend",
               "insert", "pop", "remove", "reverse", "sort"):
    setattr(Untouched, method, forbidden)


class Asking:
    """Asks `call`, a function of grants and of taken halves, and looks at the answer."""

    def ask(self, l, t):
        answer = self.call(Untouched(l), Untouched(t))
        self.assertIs(type(answer), list)
        for number in answer:
            self.assertIs(type(number), int)
        return answer

    def refused(self, l, t):
        self.assertEqual(self.ask(l, t), [-22], (l, t))


class WrongInputs:
    """The wrong grants and the wrong taken halves that every call refuses."""

    def test_a_list_that_is_not_threes(self):
        for count in range(1, 37):
            if count % 3 != 0:
                self.refused(([0, 5, 1] * 12)[:count], [])

    def test_a_last_half_less_than_the_first(self):
        self.refused([5, 4, 1], [])
        self.refused([799, 0, 1], [])
        self.refused([0, 9, 1, 5, 4, 0], [1])

    def test_each_number_of_a_grant_that_is_too_high(self):
        for high in (800, 801, HIGHEST):
            self.refused([high, 799, 1], [])
            self.refused([0, high, 1], [])
            self.refused([high, high, 1], [])
            self.refused([0, 799, high], [])

    def test_a_wrong_grant_at_every_place(self):
        for place in range(10):
            for wrong in ([6, 5, 1], [0, 800, 1], [0, 5, 101]):
                l = [0, 5, 1] * 10
                l[3 * place:3 * place + 3] = wrong
                self.refused(l, [1])

    def test_taken_that_is_not_rising(self):
        self.refused([0, 799, 100], [6, 5])
        self.refused([0, 799, 100], [1, 2, 4, 3])
        self.refused([0, 799, 100], [1, 3, 2, 4])
        self.refused([0, 799, 100], [799, 0])

    def test_a_half_taken_twice(self):
        self.refused([0, 799, 100], [5, 5])
        self.refused([0, 799, 100], [0, 0])
        self.refused([0, 799, 100], [1, 2, 3, 3])

    def test_a_half_taken_above_799(self):
        for high in (800, 801, HIGHEST):
            self.refused([0, 799, 100], [high])
            self.refused([0, 799, 100], [1, high])
            self.refused([0, 799, 100], [high, 1])

    def test_several_at_once_are_refused_once(self):
        self.refused([5, 4, 101, 0], [6, 5, 800])
        self.refused([HIGHEST] * 36, [HIGHEST] * 64)
        self.refused([HIGHEST] * 35, [0] * 64)
        self.refused([0] * 36, list(range(64)))

    def test_a_wrong_one_behind_a_half_that_is_not_covered(self):
        self.refused([], [5, 800])
        self.refused([], [5, 4])
        self.refused([], [5, 6, 6])
        self.refused([10, 20, 1, 6, 5, 1], [5])
        self.refused([10, 20, 1, 6], [5])
        self.refused([], list(range(61)))


class EachCallByItself:
    """Goes through `inputs`: grants, taken halves, and what `call` has to answer."""

    def test_what_is_handed_in_is_the_same_behind_it(self):
        for l, t, expected in self.inputs:
            given_l, given_t = list(l), list(t)
            self.assertEqual(self.call(given_l, given_t), expected)
            self.assertEqual((given_l, given_t), (l, t))

    def test_a_second_call_answers_the_same(self):
        for l, t, expected in self.inputs * 2:
            self.assertEqual(self.call(l, t), expected)
            self.assertEqual(self.call(l, t), expected)

    def test_an_answer_that_is_changed_changes_no_other(self):
        for l, t, expected in self.inputs:
            self.call(l, t).append(9)
            self.assertEqual(self.call(l, t), expected)

    def test_it_prints_nothing(self):
        out, err = io.StringIO(), io.StringIO()
        with contextlib.redirect_stdout(out), contextlib.redirect_stderr(err):
            for l, t, expected in self.inputs:
                self.call(l, t)
        self.assertEqual((out.getvalue(), err.getvalue()), ("", ""))
