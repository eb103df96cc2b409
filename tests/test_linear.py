"""Greatest sums within linear limits: what spreads rest on."""

import random
import unittest
from fractions import Fraction

from noneleft.linear import greatest
from trial import cost_of, is_plain


class Greatest(unittest.TestCase):

    def check(self, rows, limits, gains):
        """Numbers and prices that fit each other show that no sum is greater."""
        found = greatest(rows, limits, gains)
        self.assertTrue(is_plain(found))
        bottom, numbers, prices = found
        self.assertTrue(bottom > 0 and min(numbers) >= 0 and min(prices) >= 0)
        self.assertEqual((len(numbers), len(prices)), (len(gains), len(rows)))
        for row, limit in zip(rows, limits):
            self.assertLessEqual(cost_of(row, numbers), bottom * limit)
        for at, gain in enumerate(gains):
            self.assertGreaterEqual(sum(price * row[at] for price, row in zip(prices, rows)), bottom * gain)
        self.assertEqual(cost_of(gains, numbers), cost_of(limits, prices))
        return Fraction(cost_of(gains, numbers), bottom)

    def test_examples(self):
        self.assertEqual(self.check([(1, 1), (1, 3)], (4, 6), (3, 5)), 14)
        self.assertEqual(self.check([(2, 1), (1, 2)], (3, 3), (1, 1)), 2)
        self.assertEqual(self.check([(3,)], (2,), (5,)), Fraction(10, 3))
        self.assertEqual(self.check([(1, -1), (1, 1)], (0, 0), (1, 0)), 0)
        self.assertEqual(self.check([(1, 2)], (7,), (-1, -5)), 0)
        self.assertEqual(self.check([(1, 0)], (7,), (1, -5)), 7)

    def test_no_circle(self):
        # Taken by the steepest column and the first line, these come round in a circle and never end.
        rows = [(25, -6000, -4, 900), (50, -9000, -2, 300), (0, 0, 1, 0)]
        self.assertEqual(self.check(rows, (0, 0, 1), (75, -15000, 2, -600)), 5)
        self.assertEqual(self.check([(1, -11, -5, 18), (1, -3, -1, 2), (1, 0, 0, 0)], (0, 0, 1), (10, -57, -9, -24)), 1)
        self.assertEqual(self.check([(-2, -9, 1, 9), (1, 3, -1, -6), (1, 1, 1, 1)], (0, 0, 5), (2, 3, -1, -12)),
                         self.check([(1, 3, -1, -6), (-2, -9, 1, 9), (1, 1, 1, 1)], (0, 0, 5), (2, 3, -1, -12)))

    def test_many(self):
        rng = random.Random(33)
        for _ in range(300):
            many, lines = rng.randint(1, 6), rng.randint(1, 5)
            rows = [tuple(rng.randint(-3, 5) for _ in range(many)) for _ in range(lines)] + [(1,) * many]
            limits = tuple(rng.choice((0, 0, rng.randint(0, 9))) for _ in range(lines)) + (rng.randint(1, 20),)
            self.check(rows, limits, tuple(rng.randint(-4, 6) for _ in range(many)))


if __name__ == "__main__":
    unittest.main()
