"""Tests of lapsegrants.grants.more."""

import unittest

import asking
from asking import HIGHEST
from lapsegrants.grants import covered, more

WRONG_HALVES = [
    [800], [801], [HIGHEST], [1, 800], [1, HIGHEST], [800, 1], [HIGHEST] * 64,
    [6, 5], [1, 2, 4, 3], [1, 3, 2, 4], [799, 0],
    [5, 5], [0, 0], [1, 1, 2], [1, 2, 3, 3],
    list(range(61)), list(range(64)), [0] * 61,
]


class Asked(asking.Asking, unittest.TestCase):
    call = staticmethod(more)

    def fit(self, l, t, c, many):
        self.assertEqual(self.ask(l, t, c), [many], (l, t, c))

    def not_covered(self, l, t, c):
        self.assertEqual(self.ask(l, t, c), [-33], (l, t, c))


class AskedWithSeveral(Asked):
    """Asks with several c, for what is handed to every call."""

    def refused(self, l, t):
        for c in ([], [701], [0, 701, 702], [800], [HIGHEST]):
            super().refused(l, t, c)

    def not_covered(self, l, t):
        for c in ([], [701], [701, 702], list(range(640, 700))):
            super().not_covered(l, t, c)


class OrdinaryInputs(Asked):
    def test_several_grants_each_with_its_own_time(self):
        l = [300, 399, 1, 0, 99, 3, 100, 199, 2]
        self.fit(l, [50, 150], [10, 60, 110, 350], 4)
        self.fit(l, [50, 150], [10, 60, 70, 110, 350], 2)
        self.fit(l, [50, 150], [110, 120, 350], 1)
        self.fit(l, [50, 150], [250, 350], 0)
        self.fit(l, [50, 150, 350], [60, 351], 1)

    def test_what_the_readme_tells(self):
        l = [0, 99, 2, 50, 199, 1]
        self.fit(l, [10], [60, 150], 2)
        self.fit(l, [60, 150], [10, 20], 1)
        self.refused(l, [60], [10, 60])
        self.not_covered(l, [200], [10])

    def test_halves_ahead_of_those_taken(self):
        self.fit([0, 20, 3], [10, 11], [1, 2], 1)
        self.fit([0, 20, 2, 0, 9, 1], [10, 11], [1, 2], 1)
        self.fit([0, 20, 2, 0, 9, 2], [10, 11], [1, 2], 2)

    def test_halves_behind_those_taken(self):
        self.fit([0, 20, 3], [1, 2], [10, 11], 1)
        self.fit([0, 9, 5, 0, 20, 1], [1, 2], [10, 11], 1)

    def test_halves_between_those_taken(self):
        self.fit([0, 20, 4], [1, 10], [5, 6, 7], 2)
        self.fit([0, 9, 2, 0, 20, 2], [1, 10], [5, 6, 7], 2)

    def test_halves_ahead_of_and_between_and_behind_those_taken(self):
        self.fit([0, 20, 5], [3, 10], [1, 5, 12, 13], 3)
        self.fit([0, 4, 2, 5, 20, 3], [3, 10], [1, 5, 12, 13], 3)

    def test_they_are_used_in_the_order_of_the_halves(self):
        # Laid behind t, 1 would find nothing: 8 alone would have used the grant that ends at 9.
        self.fit([0, 9, 1, 5, 20, 1], [8], [1], 1)
        self.fit([0, 9, 1, 5, 20, 1], [8], [1, 7], 1)
        # Laid ahead of t, 8 would use the grant that ends at 9, and 1 would find nothing.
        self.fit([0, 9, 1, 5, 20, 1], [1], [8], 1)

    def test_one_that_could_not_be_covered_itself(self):
        self.fit([0, 20, 5], [1, 2], [3, 30], 1)
        self.fit([0, 20, 5], [1, 2], [21], 0)
        self.fit([5, 20, 5], [6], [4], 0)

    def test_one_that_would_be_but_leaves_one_of_those_taken_that_is_not(self):
        self.fit([0, 20, 1], [10], [1], 0)
        self.fit([0, 20, 2, 0, 5, 1], [10, 11], [1, 2, 3], 1)
        self.fit([0, 20, 1, 0, 30, 1], [10, 25], [1], 0)

    def test_one_that_leaves_another_of_c_that_is_not(self):
        self.fit([0, 20, 1], [], [1, 10], 1)
        self.fit([0, 20, 2], [5], [1, 10], 1)

    def test_those_behind_the_first_that_does_not_fit_are_not_counted(self):
        self.fit([10, 20, 5], [15], [5, 11, 12], 0)
        self.fit([0, 9, 5, 20, 29, 5], [1], [2, 15, 21, 22], 1)
        self.fit([0, 9, 1, 20, 29, 5], [1], [2, 21, 22], 0)
        self.fit([0, 9, 2, 20, 29, 5], [9], [1, 2, 21, 22], 1)


class Edges(Asked):
    def test_no_grants(self):
        self.fit([], [], [], 0)
        self.fit([], [], [5], 0)
        self.fit([], [], list(range(60)), 0)

    def test_nothing_taken(self):
        self.fit([0, 20, 2], [], [1, 20], 2)
        self.fit([0, 20, 2], [], [1, 2, 3], 2)
        self.fit([0, 20, 2], [], [21], 0)

    def test_no_other_halves(self):
        self.fit([0, 20, 2], [], [], 0)
        self.fit([0, 20, 2], [1, 2], [], 0)
        self.fit([0, 799, 60], list(range(60)), [], 0)

    def test_all_of_them_and_none(self):
        self.fit([0, 799, 8], [10, 20, 30], [5, 15, 25, 35, 45], 5)
        self.fit([0, 799, 7], [10, 20, 30], [5, 15, 25, 35, 45], 4)
        self.fit([0, 799, 3], [10, 20, 30], [5, 15, 25, 35, 45], 0)

    def test_a_grant_of_0(self):
        self.fit([0, 799, 0], [], [5], 0)
        self.fit([0, 10, 0, 0, 20, 2], [5], [6, 7], 1)

    def test_two_that_end_alike(self):
        for l in ([0, 10, 1, 5, 10, 2], [5, 10, 2, 0, 10, 1]):
            self.fit(l, [5], [6, 7, 8], 2)
            self.fit(l, [5, 6], [4, 7], 1)
            self.fit(l, [5], [3, 4], 1)

    def test_one_within_another(self):
        for l in ([0, 30, 2, 10, 20, 1], [10, 20, 1, 0, 30, 2]):
            self.fit(l, [5, 25], [15, 16], 1)
            self.fit(l, [15], [5, 25, 26], 2)
            self.fit(l, [5], [6, 7], 1)

    def test_a_half_at_the_first_and_at_the_last(self):
        self.fit([10, 20, 9], [10], [20], 1)
        self.fit([10, 20, 9], [20], [10], 1)
        self.fit([10, 20, 9], [20], [10, 21], 1)
        self.fit([10, 20, 9], [20], [9, 10], 0)

    def test_the_half_0_and_799(self):
        self.fit([0, 799, 9], [5], [0, 799], 2)
        self.fit([0, 799, 9], [0, 799], [5], 1)
        self.fit([0, 798, 9], [5], [0, 799], 1)

    def test_60_taken_and_61(self):
        self.fit([0, 799, 61], list(range(60)), [60, 61], 1)
        self.fit([0, 799, 60], list(range(60)), [60], 0)
        self.refused([0, 799, 100], list(range(61)), [70])
        self.refused([0, 799, 100], list(range(64)), [])

    def test_60_others_and_61(self):
        self.fit([0, 799, 60], [], list(range(60)), 60)
        self.fit([0, 799, 59], [], list(range(60)), 59)
        self.refused([0, 799, 100], [], list(range(61)))
        self.refused([0, 799, 100], [], list(range(64)))

    def test_60_of_both_at_once(self):
        evens, odds = list(range(0, 120, 2)), list(range(1, 120, 2))
        for t, c in ((list(range(60)), list(range(60, 120))), (list(range(60, 120)), list(range(60))),
                     (evens, odds), (odds, evens)):
            self.fit([0, 799, 100, 0, 700, 20], t, c, 60)
            self.fit([0, 799, 100, 0, 700, 19], t, c, 59)
            self.fit([0, 799, 61], t, c, 1)
            self.fit([0, 799, 60], t, c, 0)

    def test_together_they_may_be_61(self):
        self.fit([0, 799, 100], list(range(60)), [60], 1)
        self.fit([0, 799, 100], [60], list(range(60)), 60)

    def test_10_grants_and_11(self):
        ten = [number for k in range(10) for number in (k, k, 1)]
        self.fit(ten, [0, 2, 4, 6, 8], [1, 3, 5, 7, 9], 5)
        self.fit(ten, [0, 2, 4, 6, 8], [1, 3, 5, 7, 9, 10], 5)
        self.refused(ten + [10, 10, 1], [], [])
        self.refused(ten + [10, 10, 1, 11, 11, 1], [0], [1])

    def test_10_grants_and_60_of_both(self):
        # Told with the longest first, each has to wait until all behind it are used.
        ten = [number for k in range(10) for number in (0, 799 - 12 * k, 12)]
        t, c = list(range(680, 800, 2)), list(range(681, 800, 2))
        self.fit(ten, t, c, 60)
        self.fit(ten[:-1] + [11], t, c, 59)


class WrongOthers(Asked):
    def test_they_are_refused(self):
        for c in WRONG_HALVES:
            self.refused([0, 799, 100], [], c)
            self.refused([0, 799, 100], [700], c)
            self.refused([], [], c)

    def test_they_are_refused_behind_one_that_does_not_fit(self):
        self.refused([], [], [5, 800])
        self.refused([], [], [5, 6, 6])
        self.refused([10, 20, 1], [15], [5, 6, 4])

    def test_they_are_refused_where_not_all_is_covered(self):
        for l in ([], [0, 799, 0], [10, 20, 5]):
            self.not_covered(l, [700], [])
            for c in WRONG_HALVES:
                self.refused(l, [700], c)


class OthersThatAreTaken(Asked):
    t = [5, 10, 15]
    takens = [[5], [15], [10], [5, 10, 15], [1, 5], [1, 10, 20], [15, 20], [1, 2, 15], [5, 6, 7], [5, 15]]

    def test_they_are_refused(self):
        for c in self.takens:
            self.refused([0, 799, 100], self.t, c)
        self.refused([0, 799, 100], [0], [0])
        self.refused([0, 799, 100], [799], [799])

    def test_they_are_refused_where_not_all_is_covered(self):
        for l in ([], [0, 799, 0], [0, 10, 9], [0, 799, 2]):
            self.not_covered(l, self.t, [4, 16])
            for c in self.takens:
                self.refused(l, self.t, c)

    def test_they_are_refused_behind_one_that_does_not_fit(self):
        self.refused([0, 799, 3], self.t, [1, 15])
        self.refused([5, 799, 9], self.t, [1, 2, 10])

    def test_in_60_of_both(self):
        self.refused([0, 799, 100], list(range(60)), list(range(59, 119)))
        self.refused([0, 799, 100], list(range(59, 119)), list(range(60)))

    def test_halves_next_to_those_taken_are_not_refused(self):
        self.fit([0, 799, 100], self.t, [4, 6, 9, 11, 14, 16], 6)


class NotCovered(asking.NotCovered, AskedWithSeveral):
    pass


class WrongInputs(asking.WrongInputs, AskedWithSeveral):
    pass


class RefusedThoughNotCovered(asking.RefusedThoughNotCovered, AskedWithSeveral):
    pass


class EachCallByItself(asking.EachCallByItself, Asked):
    inputs = [
        ([0, 20, 2, 0, 10, 2], [5, 15], [1, 6, 7], [2]),
        ([0, 20, 2, 0, 10, 2], [5, 15], [1, 16], [2]),
        ([0, 20, 2, 0, 10, 2], [5, 15], [], [0]),
        ([0, 20, 2, 0, 10, 1], [1, 2, 15, 16], [5], [-33]),
        ([0, 20, 2, 0, 10, 2], [5, 15], [1, 15], [-22]),
        ([0, 20, 2, 5, 4, 1], [1], [2], [-22]),
        ([], [], [], [0]),
    ]

    def test_one_list_may_be_all(self):
        none = asking.Untouched([])
        self.assertEqual(more(none, none, none), [0])
        three = asking.Untouched([1, 2, 3])
        self.assertEqual(more(three, three, three), [-22])
        self.assertEqual(more(three, [], three), [2])
        self.assertEqual((none, three), ([], [1, 2, 3]))


class EveryWay(asking.SmallInputs, Asked):
    """Small inputs, held against every way to lay each half to a grant that may be taken then."""

    def compare(self, l):
        can_be_laid = {tuple(t): bool(asking.every_rest(l, t)) for t in self.takens}
        for t in self.takens:
            for c in self.takens:
                if set(t) & set(c):
                    expected = -22
                elif not can_be_laid[tuple(t)]:
                    expected = -33
                else:
                    expected = max(count for count in range(len(c) + 1)
                                   if can_be_laid[tuple(sorted(t + c[:count]))])
                self.assertEqual(more(l, t, c), [expected], (l, t, c))


class MoreAndCovered(Asked):
    def test_so_many_are_covered_and_one_more_is_not(self):
        # All in all no more than 60, so that covered takes them, too.
        l = [0, 799, 10, 100, 300, 8, 50, 150, 5, 120, 120, 0, 200, 700, 12]
        t = list(range(90, 210, 6))
        for first in (0, 40, 91, 160, 190, 290, 500, 690):
            c = [half for half in range(first, first + 80) if half not in t][:40]
            count = self.ask(l, t, c)[0]
            self.assertTrue(0 < count < 40, first)
            self.assertEqual(covered(l, sorted(t + c[:count]))[0], 1, first)
            self.assertEqual(covered(l, sorted(t + c[:count + 1]))[0], 0, first)
            self.assertTrue(asking.every_rest(l, sorted(t + c[:count])), first)
            self.assertFalse(asking.every_rest(l, sorted(t + c[:count + 1])), first)


if __name__ == "__main__":
    unittest.main()
