"""Tests of lapsegrants.grants.lapsed."""

import unittest

import asking
from asking import HIGHEST
from lapsegrants.grants import lapsed, left


class Asked(asking.Asking, unittest.TestCase):
    call = staticmethod(lapsed)

    def lapses(self, h, l, t, many):
        self.assertEqual(self.ask(h, l, t), [many], (h, l, t))

    def not_covered(self, h, l, t):
        self.assertEqual(self.ask(h, l, t), [-33], (h, l, t))


class AskedAtSeveral(Asked):
    """Asks at several h, for what is handed to every call."""

    def refused(self, l, t):
        for h in (0, 1, 400, 799, 800, 801, HIGHEST):
            super().refused(h, l, t)

    def not_covered(self, l, t):
        for h in (0, 1, 5, 400, 799, 800):
            super().not_covered(h, l, t)


class OrdinaryInputs(Asked):
    def test_several_grants_each_with_its_own_time(self):
        l = [300, 399, 5, 0, 99, 7, 100, 199, 9]
        for h, many in ((50, 0), (99, 0), (100, 7), (150, 7), (200, 16), (350, 16), (400, 21), (800, 21)):
            self.lapses(h, l, [], many)

    def test_of_a_grant_that_was_used_only_what_is_left_counts(self):
        l = [300, 399, 5, 0, 99, 7, 100, 199, 9]
        t = [5, 99, 150, 300, 310, 399]
        for h, many in ((99, 0), (100, 5), (200, 13), (400, 15)):
            self.lapses(h, l, t, many)

    def test_one_that_was_used_up_has_nothing_to_lapse(self):
        self.lapses(100, [0, 99, 2], [5, 6], 0)
        self.lapses(100, [0, 99, 2, 0, 50, 3], [5, 6, 7], 2)

    def test_what_the_readme_tells(self):
        l = [0, 99, 2, 50, 199, 1]
        self.lapses(100, l, [10], 1)
        self.lapses(99, l, [10], 0)
        self.lapses(800, l, [10], 2)
        self.not_covered(100, l, [10, 60, 150, 160])

    def test_what_lapses_first_is_used_first(self):
        self.lapses(11, [0, 20, 5, 0, 10, 5], [1, 2], 3)
        self.lapses(11, [0, 10, 5, 0, 20, 5], [1, 2], 3)
        self.lapses(11, [0, 11, 1, 0, 10, 1], [7], 0)
        self.lapses(11, [0, 10, 1, 0, 11, 1], [7], 0)
        self.lapses(11, [0, 20, 9, 0, 10, 1], [7], 0)

    def test_one_that_may_not_be_taken_yet_stays_and_lapses(self):
        self.lapses(10, [8, 9, 5, 0, 20, 5], [6, 7], 5)
        self.lapses(10, [8, 9, 5, 0, 20, 5], [6, 7, 8], 4)
        self.lapses(21, [8, 9, 5, 0, 20, 5], [6, 7, 8], 7)

    def test_halves_that_are_not_before_h_are_taken_first_too(self):
        # Only the half behind h is not covered, and it is looked at all the same.
        self.lapses(10, [0, 5, 3], [4], 2)
        self.not_covered(10, [0, 5, 3], [4, 10])
        self.not_covered(10, [0, 5, 3], [4, 11])
        self.not_covered(10, [0, 5, 3, 0, 700, 1], [11, 12])
        self.lapses(10, [0, 5, 3, 0, 700, 2], [11, 12], 3)

    def test_h_may_be_a_half_that_is_taken(self):
        self.lapses(10, [0, 9, 3, 10, 10, 2], [9, 10], 2)
        self.lapses(11, [0, 9, 3, 10, 10, 2], [9, 10], 3)


class Edges(Asked):
    def test_no_grants(self):
        for h in (0, 1, 799, 800):
            self.lapses(h, [], [], 0)

    def test_nothing_taken(self):
        self.lapses(800, [0, 799, 100], [], 100)
        self.lapses(6, [5, 5, 3, 0, 9, 1], [], 3)

    def test_a_grant_of_0(self):
        self.lapses(800, [0, 10, 0], [], 0)
        self.lapses(11, [0, 10, 0, 0, 10, 2, 0, 20, 4], [5], 1)

    def test_two_that_end_alike(self):
        for l in ([0, 10, 2, 5, 10, 3], [5, 10, 3, 0, 10, 2]):
            self.lapses(10, l, [5], 0)
            self.lapses(11, l, [5], 4)
            self.lapses(11, l, [5, 6, 7], 2)
            self.lapses(11, l, [4, 5, 6, 7, 8], 0)

    def test_one_within_another(self):
        for l in ([0, 30, 2, 10, 20, 2], [10, 20, 2, 0, 30, 2]):
            self.lapses(20, l, [5, 15, 25], 0)
            self.lapses(21, l, [5, 15, 25], 1)
            self.lapses(30, l, [5, 15, 25], 1)
            self.lapses(31, l, [15, 16], 2)
            self.lapses(21, l, [15, 16], 0)

    def test_a_last_half_that_is_h_itself_and_one_ahead_of_it(self):
        for last in (0, 1, 10, 798):
            self.lapses(last, [0, last, 4], [], 0)
            self.lapses(last + 1, [0, last, 4], [], 4)
            self.lapses(last + 1, [0, last, 4, 0, last + 1, 8], [], 4)
            self.lapses(last + 1, [0, last + 1, 8, 0, last, 4], [last], 3)

    def test_a_first_half_ahead_of_h_is_not_enough(self):
        self.lapses(10, [0, 700, 4, 9, 10, 4], [], 0)

    def test_a_half_at_the_last(self):
        self.lapses(21, [10, 20, 2, 0, 30, 5], [20, 21], 1)
        self.lapses(31, [10, 20, 2, 0, 30, 5], [20, 21], 5)

    def test_h_of_0(self):
        self.lapses(0, [0, 0, 5, 0, 799, 9], [], 0)
        self.lapses(0, [0, 0, 5, 0, 799, 9], [0, 1], 0)

    def test_h_of_799_and_of_800_and_of_801(self):
        l = [0, 799, 4, 0, 798, 2, 799, 799, 1]
        self.lapses(799, l, [5], 1)
        self.lapses(800, l, [5], 6)
        self.lapses(800, l, [5, 799], 5)
        self.refused(801, l, [5])

    def test_60_taken_and_61(self):
        self.lapses(800, [0, 799, 60], list(range(60)), 0)
        self.lapses(800, [0, 799, 100], list(range(740, 800)), 40)
        self.refused(800, [0, 799, 100], list(range(61)))
        self.refused(800, [0, 799, 100], list(range(64)))

    def test_10_grants_and_11(self):
        ten = [number for k in range(10) for number in (k, k, k + 1)]
        self.lapses(10, ten, [], 55)
        self.lapses(9, ten, [], 45)
        self.lapses(10, ten, list(range(10)), 45)
        self.lapses(9, ten, [3, 9], 44)
        self.refused(10, ten + [10, 10, 1], [])
        self.refused(10, ten + [10, 10, 1, 11, 11, 1], [])

    def test_10_grants_and_60_taken(self):
        # Told with the longest first, each has to wait until all behind it are used.
        ten = [number for k in range(10) for number in (0, 799 - k, 7)]
        for h, many in ((790, 0), (798, 0), (799, 3), (800, 10)):
            self.lapses(h, ten, list(range(700, 760)), many)

    def test_10_grants_of_100_halves(self):
        self.lapses(800, [0, 799, 100] * 10, [], 1000)
        self.lapses(800, [0, 799, 100] * 10, list(range(60)), 940)
        self.refused(800, [0, 799, 100] * 9 + [0, 799, 101], [])


class TooHighH(Asked):
    def test_it_is_refused(self):
        for h in (801, 802, 1000, 4294967294, HIGHEST):
            self.refused(h, [], [])
            self.refused(h, [0, 799, 100], [5, 6])

    def test_it_is_refused_where_not_all_would_be_covered(self):
        self.not_covered(800, [], [5])
        for h in (801, HIGHEST):
            self.refused(h, [], [5])
            self.refused(h, [10, 20, 1], [5])
            self.refused(h, [0, 799, 0], [5])


class NotCovered(asking.NotCovered, AskedAtSeveral):
    pass


class WrongInputs(asking.WrongInputs, AskedAtSeveral):
    pass


class RefusedThoughNotCovered(asking.RefusedThoughNotCovered, AskedAtSeveral):
    pass


class EachCallByItself(asking.EachCallByItself, Asked):
    inputs = [
        (11, [0, 20, 2, 0, 10, 2], [1, 15], [1]),
        (800, [0, 20, 2, 0, 10, 2], [1, 15], [2]),
        (800, [0, 20, 2, 0, 10, 1], [1, 2, 15, 16], [-33]),
        (801, [0, 20, 2, 0, 10, 2], [1, 15], [-22]),
        (11, [0, 20, 2, 5, 4, 1], [1], [-22]),
        (0, [], [], [0]),
    ]

    def test_one_list_may_be_both(self):
        both = asking.Untouched([1, 2, 3])
        self.assertEqual(lapsed(3, both, both), [-33])
        self.assertEqual(both, [1, 2, 3])


class EveryWay(asking.SmallInputs, Asked):
    """However the halves are laid, no less has lapsed before any half."""

    def compare(self, l):
        for t in self.takens:
            rests = asking.every_rest(l, t)
            for h in range(6):
                expected = min([asking.lapsed_of(h, l, rest) for rest in rests], default=-33)
                self.assertEqual(lapsed(h, l, t), [expected], (h, l, t))


class LapsedAndLeft(Asked):
    def test_before_800_all_that_is_left_has_lapsed(self):
        l = [0, 799, 40, 100, 300, 10, 50, 150, 5, 120, 120, 0, 200, 700, 30]
        for count in range(61):
            t = list(range(90, 90 + 2 * count, 2))
            self.lapses(800, l, t, sum(left(l, t)[1:]))

    def test_before_a_later_half_no_less_has_lapsed(self):
        l = [0, 799, 40, 100, 300, 10, 50, 150, 5, 120, 120, 0, 200, 700, 30]
        t = list(range(90, 210, 3))
        before = [self.ask(h, l, t)[0] for h in range(801)]
        self.assertEqual(before, sorted(before))
        self.assertEqual((before[0], before[800]), (0, 85 - len(t)))


if __name__ == "__main__":
    unittest.main()
