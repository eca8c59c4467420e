"""Tests of what holds over the four functions together, for small grants and few halves."""

import itertools
import unittest

import asking
from lapsegrants.grants import covered, lapsed, left, more


def parts(t):
    """All that has some of t's halves, or all, or none."""
    return [part for count in range(len(t) + 1) for part in itertools.combinations(t, count)]


class WhatHolds(asking.SmallInputs, unittest.TestCase):
    def compare(self, l):
        answers = {tuple(t): covered(l, t) for t in self.takens}
        for t in self.takens:
            rests = asking.every_rest(l, t)
            self.assertEqual(answers[tuple(t)] == [1, 0], bool(rests), (l, t))
            if rests:
                self.looked_at(l, t, rests)
                for part in parts(t):
                    self.assertEqual(answers[part], [1, 0], (l, t, part))

    def looked_at(self, l, t, rests):
        """What holds where all is covered: rests are what every way leaves."""
        rest = left(l, t)[1:]
        self.assertIn(tuple(rest), rests, (l, t))
        self.assertEqual(sum(rest) + len(t), sum(l[2::3]), (l, t))
        for h in range(6):
            least = min(asking.lapsed_of(h, l, one) for one in rests)
            self.assertEqual(asking.lapsed_of(h, l, rest), least, (h, l, t))
            self.assertEqual(lapsed(h, l, t), [least], (h, l, t))
        for half in range(4):
            if half not in t:
                together = sorted(t + [half])
                self.assertEqual(more(l, t, [half])[0], covered(l, together)[0], (l, t, half))
        for half in t:
            fewer = [other for other in t if other != half]
            self.assertEqual(more(l, fewer, [half]), [1], (l, t, half))


if __name__ == "__main__":
    unittest.main()
