"""left.py: the integers that conditions leave, beside a search through all of them."""

import random
import unittest

from onlyviews.left import FARTHEST, is_empty, is_met, least_left, nearest_left, only_left

FAR = 12


def any_conditions(chance):
    """Return conditions with ends near 0, with something behind them, as situations have them."""
    def end():
        return None if chance.random() < 0.3 else chance.randint(-6, 6)

    return [(end(), end(), chance.random() < 0.5, chance.randrange(4)) for _ in range(chance.randrange(6))]


def all_left(conditions):
    """Return all integers that meet some conditions, up to one farther than all ends."""
    return [value for value in range(-FAR, FAR + 1)
            if all(((low is None or value >= low) and (high is None or value <= high)) is inside
                   for low, high, inside, _ in conditions)]


class LeftTest(unittest.TestCase):

    def test_all_by_a_search(self):
        many = {"empty": 0, "one": 0}
        for seed in range(3000):
            chance = random.Random(seed)
            conditions = any_conditions(chance)
            left = all_left(conditions)
            self.assertIs(is_empty(conditions), left == [], conditions)
            self.assertEqual(only_left(conditions), left[0] if len(left) == 1 else None, conditions)
            start = chance.randint(-8, 8)
            self.assertEqual(least_left(conditions, start), next((value for value in left if value >= start), None), conditions)
            value = chance.randint(-FAR, FAR)
            found = nearest_left(conditions, value, FAR)
            if left:
                self.assertIn(found, left)
                self.assertEqual(abs(found - value), min(abs(other - value) for other in left), (conditions, value))
            else:
                self.assertIsNone(found)
            many["empty"] += left == []
            many["one"] += len(left) == 1
        self.assertGreater(min(many.values()), 50)

    def test_conditions(self):
        for low, high, value, met in [(1, 5, 1, True), (1, 5, 5, True), (1, 5, 0, False), (1, 5, 6, False), (None, 5, -100, True),
                                      (None, 5, 6, False), (1, None, 100, True), (1, None, 0, False), (5, 1, 3, False),
                                      (None, None, 3, True)]:
            self.assertIs(is_met(value, low, high, True), met)
            self.assertIs(is_met(value, low, high, False), not met)

    def test_far_away(self):
        self.assertIsNone(only_left([(10 ** 6 + 1, None, True)]))
        self.assertIsNone(only_left([(None, -10 ** 6 - 1, True)]))
        self.assertFalse(is_empty([(None, -10 ** 6 - 1, True)]))
        self.assertEqual(only_left([(None, 5, True), (None, 4, False)]), 5)
        self.assertIsNone(nearest_left([(10 ** 6 + 1, None, True)], 0, 10 ** 6))
        self.assertEqual(nearest_left([(10 ** 6, None, True)], 0, 10 ** 6), 10 ** 6)
        self.assertEqual(least_left([], -FARTHEST), -FARTHEST)


if __name__ == "__main__":
    unittest.main()
