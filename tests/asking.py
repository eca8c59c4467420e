"""What the tests of several calls share: it holds no test that runs by itself.

These classes stand under no TestCase, so that they run only where a test file
mixes them into one of its own.
"""

import contextlib
import copy
import io
import itertools

from lapsegrants import grants

HIGHEST = 4294967295

# Each function of the program with what it may be handed, so that one can be called ahead of another.
CALLS = [
    (grants.covered, [0, 20, 2, 0, 10, 1], [1, 15]),
    (grants.covered, [], [5]),
    (grants.left, [0, 20, 2, 0, 10, 1], [1, 15]),
    (grants.left, [], [5]),
    (grants.lapsed, 15, [0, 20, 2, 0, 10, 1], [1, 15]),
    (grants.lapsed, 15, [], [5]),
    (grants.more, [0, 20, 2, 0, 10, 1], [1, 15], [2, 3]),
    (grants.more, [], [5], []),
]


def forbidden(*args, **kwargs):
    raise AssertionError("what was handed in was changed")


class Untouched(list):
    """A list that fails as soon as it is changed, be it for a while only."""


for method in ("__setitem__", "__delitem__", "__iadd__", "__imul__", "append", "clear", "extend",
               "insert", "pop", "remove", "reverse", "sort"):
    setattr(Untouched, method, forbidden)


class Asking:
    """Asks `call`, a function of the program, and looks at the answer."""

    def ask(self, *handed):
        answer = self.call(*[Untouched(one) if isinstance(one, list) else one for one in handed])
        self.assertIs(type(answer), list)
        for number in answer:
            self.assertIs(type(number), int)
        return answer

    def refused(self, *handed):
        self.assertEqual(self.ask(*handed), [-22], handed)


class WrongInputs:
    """The wrong grants and the wrong taken halves that every call refuses.

    Where a call is handed more than these two, its tests give a `refused` that adds it,
    and a `not_covered` for the classes below.
    """

    def test_a_list_that_is_not_threes(self):
        for count in range(1, 37):
            if count % 3 != 0:
                self.refused(([0, 5, 1] * 12)[:count], [])

    def test_a_last_half_less_than_the_first(self):
        self.refused([5, 4, 1], [])
        self.refused([799, 0, 1], [])
        self.refused([0, 9, 1, 5, 4, 0], [1])

    def test_each_number_of_a_grant_that_is_too_high(self):
        for high in (800, 801, HIGHEST):
            self.refused([high, 799, 1], [])
            self.refused([0, high, 1], [])
            self.refused([high, high, 1], [])
            self.refused([0, 799, high], [])

    def test_a_wrong_grant_at_every_place(self):
        for place in range(10):
            for wrong in ([6, 5, 1], [0, 800, 1], [0, 5, 101]):
                l = [0, 5, 1] * 10
                l[3 * place:3 * place + 3] = wrong
                self.refused(l, [1])

    def test_taken_that_is_not_rising(self):
        self.refused([0, 799, 100], [6, 5])
        self.refused([0, 799, 100], [1, 2, 4, 3])
        self.refused([0, 799, 100], [1, 3, 2, 4])
        self.refused([0, 799, 100], [799, 0])

    def test_a_half_taken_twice(self):
        self.refused([0, 799, 100], [5, 5])
        self.refused([0, 799, 100], [0, 0])
        self.refused([0, 799, 100], [1, 2, 3, 3])

    def test_a_half_taken_above_799(self):
        for high in (800, 801, HIGHEST):
            self.refused([0, 799, 100], [high])
            self.refused([0, 799, 100], [1, high])
            self.refused([0, 799, 100], [high, 1])

    def test_several_at_once_are_refused_once(self):
        self.refused([5, 4, 101, 0], [6, 5, 800])
        self.refused([HIGHEST] * 36, [HIGHEST] * 64)
        self.refused([HIGHEST] * 35, [0] * 64)
        self.refused([0] * 36, list(range(64)))

    def test_a_wrong_one_behind_a_half_that_is_not_covered(self):
        self.refused([], [5, 800])
        self.refused([], [5, 4])
        self.refused([], [5, 6, 6])
        self.refused([10, 20, 1, 6, 5, 1], [5])
        self.refused([10, 20, 1, 6], [5])
        self.refused([], list(range(61)))


class NotCovered:
    """What is taken and not covered, which every call but covered answers with -33."""

    def test_no_grants_and_one_half_taken(self):
        self.not_covered([], [0])
        self.not_covered([], [7])
        self.not_covered([], [799])

    def test_the_first_one_is_not(self):
        self.not_covered([10, 20, 5], [9, 10])
        self.not_covered([1, 799, 5], [0])

    def test_one_between_others_is_not(self):
        self.not_covered([0, 9, 5, 20, 29, 5], [5, 15, 25])

    def test_the_last_one_is_not(self):
        self.not_covered([0, 799, 2], [1, 2, 3])
        self.not_covered([0, 20, 2, 0, 10, 1], [1, 2, 15, 16])
        self.not_covered([10, 20, 5], [20, 21])
        self.not_covered([0, 799, 59], list(range(60)))

    def test_grants_of_0(self):
        self.not_covered([0, 799, 0], [5])
        self.not_covered([0, 799, 0] * 10, [5])


class RefusedThoughNotCovered:
    """-22 is told ahead of -33, so it is answered where both are due."""

    def test_right_ones_that_would_not_be_covered(self):
        self.not_covered([10, 20, 1], [5])
        self.not_covered([], [5])
        self.not_covered([0, 799, 0], [5])

    def test_wrong_grants_that_would_not_cover(self):
        for l in ([10, 20], [10, 20, 1, 6], [20, 10, 1], [10, 800, 1], [10, 20, 101],
                  [10, 20, 1, 6, 5, 1], [10, 20, 1] * 11, [HIGHEST] * 3, [HIGHEST] * 36):
            self.refused(l, [5])

    def test_wrong_halves_that_would_not_be_covered(self):
        for t in ([800], [HIGHEST], [5, 800], [5, HIGHEST], [6, 5], [5, 5], [1, 2, 2],
                  list(range(61)), list(range(64)), [HIGHEST] * 64):
            self.refused([], t)
            self.refused([0, 799, 0], t)


class EachCallByItself:
    """Goes through `inputs`: what is handed to `call`, and then what it has to answer."""

    def test_what_is_handed_in_is_the_same_behind_it(self):
        for *handed, expected in self.inputs:
            given = copy.deepcopy(handed)
            self.assertEqual(self.call(*given), expected)
            self.assertEqual(given, handed)

    def test_a_second_call_answers_the_same(self):
        for *handed, expected in self.inputs * 2:
            self.assertEqual(self.call(*handed), expected)
            self.assertEqual(self.call(*handed), expected)

    def test_behind_calls_of_all_functions_it_answers_the_same(self):
        for *handed, expected in self.inputs:
            for other, *others in CALLS:
                before = other(*others)
                self.assertEqual(self.call(*handed), expected)
                self.assertEqual(other(*others), before)
                self.assertEqual(self.call(*handed), expected)

    def test_an_answer_that_is_changed_changes_no_other(self):
        for *handed, expected in self.inputs:
            self.call(*handed).append(9)
            self.assertEqual(self.call(*handed), expected)

    def test_it_prints_nothing(self):
        out, err = io.StringIO(), io.StringIO()
        with contextlib.redirect_stdout(out), contextlib.redirect_stderr(err):
            for *handed, expected in self.inputs:
                self.call(*handed)
        self.assertEqual((out.getvalue(), err.getvalue()), ("", ""))


class SmallInputs:
    """Hands small grants to `compare`, all of them, each with all of `takens`."""

    times = [(first, last) for first in range(4) for last in range(first, 4)]
    takens = [list(t) for count in range(5) for t in itertools.combinations(range(4), count)]

    def compare_all(self, wholes):
        for whole in wholes:
            self.compare([number for grant in whole for number in grant])

    def test_two_grants(self):
        single = [time + (many,) for time in self.times for many in range(3)]
        self.compare_all(itertools.product(single, repeat=2))

    def test_three_grants_of_one_half(self):
        single = [time + (1,) for time in self.times]
        self.compare_all(itertools.product(single, repeat=3))


def every_rest(l, t):
    """Lay each half of t to a grant that may be taken then, in every way, and tell what each way leaves."""
    rests = {tuple(l[2::3])}
    for half in t:
        rests = {rest[:k] + (rest[k] - 1,) + rest[k + 1:]
                 for rest in rests for k in range(len(rest))
                 if rest[k] > 0 and l[3 * k] <= half <= l[3 * k + 1]}
    return rests


def lapsed_of(h, l, rest):
    """How many of rest are of grants whose last half is less than h."""
    return sum(rest[k] for k in range(len(rest)) if l[3 * k + 1] < h)
