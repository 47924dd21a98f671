"""The greatest sum under bounds, on which shares, growths and the rim stand."""

import copy
import random
import unittest
from fractions import Fraction

from rimhouse.greatest import greatest


def come_to(ones, others):
    return sum(one * other for one, other in zip(ones, others))


class Greatest(unittest.TestCase):
    def check(self, goal, rows, bounds):
        """Amounts and weights both come to the told sum, and each is let: so none is greater."""
        before = copy.deepcopy((goal, rows, bounds))
        told = greatest(goal, rows, bounds)
        self.assertEqual((goal, rows, bounds), before)
        if told is None:
            return None
        top, amounts, weights, bottom = told
        self.assertGreater(bottom, 0)
        self.assertEqual((len(amounts), len(weights)), (len(goal), len(rows)))
        self.assertGreaterEqual(min(amounts + weights), 0)
        for row, bound in zip(rows, bounds):
            self.assertLessEqual(come_to(row, amounts), bound * bottom)
        for place, one in enumerate(goal):
            self.assertGreaterEqual(come_to([row[place] for row in rows], weights), one * bottom)
        self.assertEqual(come_to(goal, amounts), top)
        self.assertEqual(come_to(bounds, weights), top)
        return Fraction(top, bottom)

    def test_by_hand(self):
        self.assertEqual(self.check([3, 2], [[1, 1], [1, 3]], [4, 6]), 12)
        self.assertEqual(self.check([5, 4, 3], [[2, 3, 1], [4, 1, 2], [3, 4, 2]], [5, 11, 8]), 13)
        self.assertEqual(self.check([1], [[3]], [2]), Fraction(2, 3))
        self.assertEqual(self.check([-1, -2], [[1, 1]], [4]), 0)

    def test_no_greatest(self):
        self.assertIsNone(self.check([1], [[-1]], [0]))
        self.assertIsNone(self.check([1, 1], [[1, -1]], [3]))
        self.assertIsNone(self.check([0, 1], [[1, 0]], [3]))

    def test_steps_that_could_go_round(self):
        # Told by Beale: most steps change nothing here but what is in, and some ways of choosing go round.
        rows = [[1, -32, -4, 36], [1, -24, -1, 6], [0, 0, 1, 0]]
        self.assertEqual(self.check([3, -80, 2, -24], rows, [0, 0, 1]), 5)

    def test_drawn(self):
        chance = random.Random(3)
        found = []
        for turn in range(600):
            many, height = chance.randint(1, 5), chance.randint(1, 6)
            most = chance.choice((1, 2, 9, 10 ** 9))
            rows = [[chance.randint(-most, most) for place in range(many)] for row in range(height)]
            goal = [chance.randint(-most, most) for place in range(many)]
            found.append(self.check(goal, rows, [chance.choice((0, 0, 1, most)) for row in rows]))
        self.assertGreater(len([one for one in found if one is None]), 50)
        self.assertGreater(len([one for one in found if one == 0]), 50)
        self.assertGreater(len([one for one in found if one]), 50)


if __name__ == "__main__":
    unittest.main()
