"""Tests of lapsegrants.grants.covered."""

import ast
import pathlib
import unittest

import asking
from lapsegrants import grants
from lapsegrants.grants import covered

PACKAGE = pathlib.Path(grants.__file__).parent


class Asked(asking.Asking, unittest.TestCase):
    call = staticmethod(covered)

    def all_covered(self, l, t):
        self.assertEqual(self.ask(l, t), [1, 0], (l, t))

    def not_covered(self, l, t, half):
        self.assertEqual(self.ask(l, t), [0, half], (l, t))


class OrdinaryInputs(Asked):
    def test_several_grants_each_with_its_own_time(self):
        l = [0, 99, 2, 100, 199, 1, 300, 399, 3]
        self.all_covered(l, [5, 99, 150, 300, 310, 399])
        self.not_covered(l, [5, 99, 150, 250, 300], 250)
        self.not_covered(l, [5, 99, 150, 151, 300], 151)

    def test_what_the_readme_tells(self):
        l = [0, 99, 2, 50, 199, 1]
        self.all_covered(l, [10, 60, 150])
        self.not_covered(l, [10, 60, 150, 160], 160)
        self.refused([99, 0, 2], [10])

    def test_what_lapses_first_is_used_first_though_told_later(self):
        self.all_covered([0, 799, 1, 0, 5, 1], [5, 700])
        self.all_covered([0, 799, 1, 0, 600, 1, 0, 5, 1], [5, 600, 799])

    def test_what_lapses_first_is_used_first_though_it_begins_later(self):
        self.all_covered([0, 20, 1, 5, 10, 1], [7, 15])
        self.all_covered([5, 10, 1, 0, 20, 1], [7, 15])

    def test_what_lapses_first_is_used_first_though_it_has_less(self):
        self.not_covered([0, 20, 2, 0, 10, 1], [1, 2, 15, 16], 16)
        self.all_covered([0, 20, 2, 0, 10, 1], [1, 15, 16])

    def test_one_that_may_not_be_taken_yet_is_passed_over(self):
        self.all_covered([8, 9, 1, 0, 20, 1], [7, 8])
        self.not_covered([8, 9, 2, 10, 20, 2], [7], 7)

    def test_one_that_has_lapsed_is_passed_over(self):
        self.all_covered([0, 6, 1, 0, 20, 1], [7])
        self.not_covered([0, 6, 5], [6, 7], 7)

    def test_one_with_nothing_left_is_passed_over(self):
        self.all_covered([0, 10, 1, 0, 20, 2], [1, 2, 3])
        self.not_covered([0, 10, 1, 0, 20, 2], [1, 2, 3, 4], 4)

    def test_the_first_half_that_is_not_covered_is_told(self):
        self.not_covered([50, 60, 5], [10, 20, 55, 70], 10)
        self.not_covered([0, 9, 1], [3, 4, 5, 6], 4)
        self.not_covered([0, 9, 1, 5, 9, 1], [3, 4, 5, 6], 4)

    def test_half_0_that_is_not_covered_is_told(self):
        self.not_covered([1, 9, 5], [0, 1], 0)


class EndsAlike(Asked):
    """Of grants that end alike the first told is used: covered answers the same
    either way, as halves rise, so it is the grant that is found that is asked."""

    def test_the_one_told_first_is_used(self):
        alike = [(0, 10, 1), (5, 10, 1)]
        self.assertEqual(grants.place_to_use(alike, [1, 1], 5), 0)
        self.assertEqual(grants.place_to_use(alike[::-1], [1, 1], 5), 0)

    def test_the_next_is_used_when_that_has_nothing_left(self):
        self.assertEqual(grants.place_to_use([(0, 10, 1), (0, 10, 1)], [0, 1], 5), 1)

    def test_the_one_told_first_of_these_is_used_behind_one_that_lapses_later(self):
        three = [(0, 20, 1), (0, 10, 1), (0, 10, 1)]
        self.assertEqual(grants.place_to_use(three, [1, 1, 1], 5), 1)
        self.assertEqual(grants.place_to_use(three, [1, 0, 1], 5), 2)
        self.assertEqual(grants.place_to_use(three, [1, 0, 0], 5), 0)
        self.assertIsNone(grants.place_to_use(three, [0, 0, 0], 5))

    def test_both_cover(self):
        self.all_covered([0, 10, 1, 5, 10, 1], [5, 10])
        self.all_covered([5, 10, 1, 0, 10, 1], [4, 10])
        self.not_covered([0, 10, 1, 0, 10, 1], [1, 2, 3], 3)


class Edges(Asked):
    def test_no_grants(self):
        self.all_covered([], [])
        self.not_covered([], [0], 0)
        self.not_covered([], [7, 8], 7)

    def test_nothing_taken(self):
        self.all_covered([0, 799, 100], [])
        self.all_covered([5, 5, 0], [])

    def test_a_grant_of_0(self):
        self.not_covered([0, 799, 0], [5], 5)
        self.all_covered([0, 10, 0, 0, 20, 1], [5])

    def test_one_within_another(self):
        for l in ([0, 30, 2, 10, 20, 1], [10, 20, 1, 0, 30, 2]):
            self.all_covered(l, [5, 15, 25])
            self.all_covered(l, [15, 25, 30])
            self.not_covered(l, [5, 25, 26], 26)

    def test_a_half_at_the_first_and_at_the_last(self):
        self.all_covered([10, 20, 2], [10, 20])
        self.not_covered([10, 20, 2], [9], 9)
        self.not_covered([10, 20, 2], [21], 21)

    def test_a_grant_whose_first_half_is_its_last(self):
        self.all_covered([7, 7, 1], [7])
        self.not_covered([7, 7, 5], [6, 7], 6)
        self.not_covered([7, 7, 5], [7, 8], 8)

    def test_a_grant_of_one_half(self):
        self.all_covered([0, 799, 1], [400])
        self.not_covered([0, 799, 1], [400, 401], 401)

    def test_60_taken_and_61(self):
        self.all_covered([0, 799, 60], list(range(60)))
        self.not_covered([0, 799, 59], list(range(60)), 59)
        self.refused([0, 799, 100], list(range(61)))
        self.refused([0, 799, 100], list(range(64)))

    def test_10_grants_and_11(self):
        ten = [number for k in range(10) for number in (k, k, 1)]
        self.all_covered(ten, list(range(10)))
        self.not_covered(ten, list(range(11)), 10)
        self.refused(ten + [10, 10, 1], [])
        self.refused(ten + [10, 10, 1, 11, 11, 1], [])

    def test_10_grants_and_60_taken(self):
        # Told with the longest first, each has to wait until all behind it are used.
        ten = [number for k in range(10) for number in (0, 799 - 6 * k, 6)]
        self.all_covered(ten, list(range(740, 800)))
        self.not_covered(ten[:-1] + [5], list(range(740, 800)), 799)

    def test_a_grant_of_100_halves_and_of_101(self):
        self.all_covered([0, 799, 100], [3])
        self.refused([0, 799, 101], [3])
        self.refused([0, 799, 1, 0, 799, 101], [3])

    def test_the_half_799_and_800(self):
        self.all_covered([799, 799, 1], [799])
        self.not_covered([0, 798, 1], [799], 799)
        self.refused([0, 800, 1], [])
        self.refused([800, 800, 1], [])
        self.refused([0, 799, 1], [800])


class WrongInputs(asking.WrongInputs, Asked):
    pass


class EachCallByItself(asking.EachCallByItself, Asked):
    inputs = [
        ([0, 20, 2, 0, 10, 1], [1, 15, 16], [1, 0]),
        ([0, 20, 2, 0, 10, 1], [1, 2, 15, 16], [0, 16]),
        ([0, 20, 2, 5, 4, 1], [1], [-22]),
        ([], [], [1, 0]),
    ]

    def test_one_list_may_be_both(self):
        both = asking.Untouched([1, 2, 3])
        self.assertEqual(covered(both, both), [0, 3])
        self.assertEqual(both, [1, 2, 3])

    def test_it_imports_nothing_but_its_own(self):
        for path in PACKAGE.glob("*.py"):
            for node in ast.walk(ast.parse(path.read_text())):
                self.assertNotIsInstance(node, ast.Import)
                if isinstance(node, ast.ImportFrom):
                    self.assertTrue(node.module.startswith("lapsegrants."))


def by_every_way(l, t):
    """What covered has to answer, told by every way there is to lay the halves."""
    for count in range(1, len(t) + 1):
        if not asking.every_rest(l, t[:count]):
            return [0, t[count - 1]]
    return [1, 0]


class EveryWay(asking.SmallInputs, Asked):
    """All is covered just if there is any way."""

    def compare(self, l):
        for t in self.takens:
            self.assertEqual(covered(l, t), by_every_way(l, t), (l, t))


if __name__ == "__main__":
    unittest.main()
