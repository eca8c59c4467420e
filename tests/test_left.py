"""Tests of lapsegrants.grants.left."""

import unittest

import asking
from lapsegrants.grants import covered, left


class Asked(asking.Asking, unittest.TestCase):
    call = staticmethod(left)

    def rest(self, l, t, *each):
        self.assertEqual(self.ask(l, t), [len(each)] + list(each), (l, t))

    def not_covered(self, l, t):
        self.assertEqual(self.ask(l, t), [-33], (l, t))


class OrdinaryInputs(Asked):
    def test_several_grants_each_with_its_own_time(self):
        l = [300, 399, 5, 0, 99, 7, 100, 199, 9]
        self.rest(l, [5, 99, 150, 300, 310, 399], 2, 5, 8)
        self.rest(l, [5, 6, 7], 5, 4, 9)
        self.rest(l, [350], 4, 7, 9)

    def test_what_the_readme_tells(self):
        l = [0, 99, 2, 50, 199, 1]
        self.rest(l, [10], 1, 1)
        self.rest(l, [10, 60, 150], 0, 0)
        self.not_covered(l, [10, 60, 150, 160])

    def test_they_are_answered_as_told_and_not_as_they_lapse(self):
        self.rest([0, 30, 3, 0, 10, 1, 0, 20, 2], [], 3, 1, 2)
        self.rest([0, 30, 3, 0, 10, 1, 0, 20, 2], [1, 2], 3, 0, 1)

    def test_what_lapses_first_is_used_first_though_told_later(self):
        self.rest([0, 799, 5, 0, 10, 5], [1, 2], 5, 3)
        self.rest([0, 10, 5, 0, 799, 5], [1, 2], 3, 5)

    def test_what_lapses_first_is_used_first_though_it_begins_later(self):
        self.rest([0, 20, 5, 5, 10, 5], [7], 5, 4)
        self.rest([5, 10, 5, 0, 20, 5], [7], 4, 5)

    def test_what_lapses_first_is_used_first_though_it_has_less(self):
        self.rest([0, 20, 9, 0, 10, 1], [7], 9, 0)

    def test_what_lapses_first_is_used_first_though_that_one_lapses_a_half_later(self):
        self.rest([0, 11, 1, 0, 10, 1], [7], 1, 0)
        self.rest([0, 10, 1, 0, 11, 1], [7], 0, 1)

    def test_one_that_lapses_first_but_may_not_be_taken_yet(self):
        self.rest([8, 9, 5, 0, 20, 5], [6, 7], 5, 3)
        self.rest([8, 9, 5, 0, 20, 5], [6, 7, 8], 4, 3)
        self.rest([0, 20, 5, 8, 9, 5], [7, 8, 9, 10], 3, 3)

    def test_one_that_has_lapsed_is_passed_over(self):
        self.rest([0, 6, 5, 0, 20, 5], [7], 5, 4)
        self.rest([0, 6, 5, 0, 20, 5], [6, 7], 4, 4)

    def test_one_with_nothing_left_is_passed_over(self):
        self.rest([0, 10, 1, 0, 20, 3], [1, 2, 3], 0, 1)
        self.rest([0, 20, 3, 0, 10, 2, 0, 15, 1], [1, 2, 3, 4], 2, 0, 0)


class EndsAlike(Asked):
    def test_the_one_told_first_is_used(self):
        self.rest([0, 10, 2, 0, 10, 2], [5], 1, 2)
        self.rest([0, 10, 2, 5, 10, 2], [5], 1, 2)
        self.rest([5, 10, 2, 0, 10, 2], [5], 1, 2)
        self.rest([0, 10, 1, 0, 10, 9], [5], 0, 9)
        self.rest([0, 10, 9, 0, 10, 1], [5], 8, 1)

    def test_the_other_is_used_where_that_has_nothing_left(self):
        self.rest([0, 10, 1, 0, 10, 2], [5, 6], 0, 1)
        self.rest([0, 10, 0, 0, 10, 2], [5], 0, 1)

    def test_the_other_is_used_where_that_may_not_be_taken_yet(self):
        self.rest([5, 10, 2, 0, 10, 2], [4], 2, 1)
        self.rest([5, 10, 2, 0, 10, 2], [4, 5, 6], 0, 1)

    def test_with_one_that_lapses_later_ahead_of_them(self):
        l = [0, 20, 1, 0, 10, 1, 0, 10, 1]
        self.rest(l, [5], 1, 0, 1)
        self.rest(l, [5, 6], 1, 0, 0)
        self.rest(l, [5, 6, 7], 0, 0, 0)

    def test_ten_of_them(self):
        self.rest([0, 10, 1] * 10, [1, 2, 3], 0, 0, 0, 1, 1, 1, 1, 1, 1, 1)


class Edges(Asked):
    def test_no_grants(self):
        self.rest([], [])

    def test_nothing_taken(self):
        self.rest([0, 799, 100], [], 100)
        self.rest([5, 5, 0, 0, 9, 1], [], 0, 1)

    def test_a_grant_of_0(self):
        self.rest([0, 10, 0, 0, 20, 2], [5], 0, 1)
        self.rest([0, 20, 2, 0, 10, 0], [5], 1, 0)

    def test_one_within_another(self):
        self.rest([0, 30, 2, 10, 20, 2], [5, 15, 25], 0, 1)
        self.rest([10, 20, 2, 0, 30, 2], [5, 15, 25], 1, 0)
        self.rest([10, 20, 1, 0, 30, 2], [15, 16], 0, 1)

    def test_a_half_at_the_first_and_at_the_last(self):
        self.rest([10, 20, 2, 0, 30, 5], [9, 10], 1, 4)
        self.rest([10, 20, 2, 0, 30, 5], [20, 21], 1, 4)
        self.rest([10, 20, 2], [10, 20], 0)

    def test_a_grant_whose_first_half_is_its_last(self):
        self.rest([0, 20, 5, 7, 7, 5], [6, 7, 8], 3, 4)

    def test_60_taken_and_61(self):
        self.rest([0, 799, 60], list(range(60)), 0)
        self.rest([0, 799, 100], list(range(740, 800)), 40)
        self.refused([0, 799, 100], list(range(61)))
        self.refused([0, 799, 100], list(range(64)))

    def test_10_grants_and_11(self):
        ten = [number for k in range(10) for number in (k, k, k + 1)]
        self.rest(ten, list(range(10)), *range(10))
        self.rest(ten, [3, 9], 1, 2, 3, 3, 5, 6, 7, 8, 9, 9)
        self.refused(ten + [10, 10, 1], [])
        self.refused(ten + [10, 10, 1, 11, 11, 1], [])

    def test_10_grants_and_60_taken(self):
        # Told with the longest first, each has to wait until all behind it are used.
        ten = [number for k in range(10) for number in (0, 799 - k, 7)]
        self.rest(ten, list(range(700, 760)), 7, 3, 0, 0, 0, 0, 0, 0, 0, 0)

    def test_a_grant_of_100_halves_and_of_101(self):
        self.rest([0, 799, 100], [3], 99)
        self.refused([0, 799, 101], [3])

    def test_the_half_799_and_800(self):
        self.rest([0, 799, 2, 799, 799, 2], [799], 1, 2)
        self.refused([0, 800, 1], [])
        self.refused([800, 800, 1], [])
        self.refused([0, 799, 1], [800])


class NotCovered(asking.NotCovered, Asked):
    pass


class WrongInputs(asking.WrongInputs, Asked):
    pass


class RefusedThoughNotCovered(asking.RefusedThoughNotCovered, Asked):
    pass


class EachCallByItself(asking.EachCallByItself, Asked):
    inputs = [
        ([0, 20, 2, 0, 10, 2], [1, 15], [2, 1, 1]),
        ([0, 20, 2, 0, 10, 1], [1, 2, 15, 16], [-33]),
        ([0, 20, 2, 5, 4, 1], [1], [-22]),
        ([], [], [0]),
    ]

    def test_one_list_may_be_both(self):
        both = asking.Untouched([1, 2, 3])
        self.assertEqual(left(both, both), [-33])
        self.assertEqual(both, [1, 2, 3])


def by_the_words(l, t):
    """What left has to answer, told by laying out each grant's halves as they lapse."""
    stock = sorted((l[k + 1], k // 3, l[k]) for k in range(0, len(l), 3) for one in range(l[k + 2]))
    for half in t:
        ready = [one for one in stock if one[2] <= half <= one[0]]
        if not ready:
            return [-33]
        stock.remove(ready[0])
    count = len(l) // 3
    return [count] + [len([one for one in stock if one[1] == place]) for place in range(count)]


class SmallInputs(asking.SmallInputs, Asked):
    def compare(self, l):
        for t in self.takens:
            answer = left(l, t)
            self.assertEqual(answer, by_the_words(l, t), (l, t))
            self.assertEqual(answer == [-33], covered(l, t)[0] == 0, (l, t))
            if answer != [-33]:
                self.assertEqual(sum(answer[1:]) + len(t), sum(l[2::3]), (l, t))


class LeftAndTaken(Asked):
    def test_together_they_are_what_was_granted(self):
        l = [0, 799, 40, 100, 300, 10, 50, 150, 5, 120, 120, 0, 200, 700, 30]
        for count in range(61):
            t = list(range(90, 90 + 2 * count, 2))
            answer = self.ask(l, t)
            self.assertEqual(answer[0], 5, t)
            self.assertEqual(sum(answer[1:]) + len(t), 85, t)


if __name__ == "__main__":
    unittest.main()
