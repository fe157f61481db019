"""Point 17: lists of views that tell others, superfluous views, cores, and the cheapest choice."""

import itertools
import random
import unittest

from makers import BIG, PLACES, REGIONS, SCHEMAS, SHOPS, any_view
from onlyviews.answering import can_answer
from onlyviews.schemas import Schema
from onlyviews.sets import cheapest, core, superfluous, tells
from onlyviews.views import View

SMALL = View.parse(SHOPS, "view shop\n  follow place\n    range size - 10")
NEVER = View.parse(SHOPS, "view shop\n  range open 2 1")


def shop_views(*texts):
    return [View.parse(SHOPS, text) for text in texts]


def answers_all(first, second):
    return all(can_answer(list(first), view) for view in second)


def any_lists(seed, many):
    """Return lists of so many views of one schema."""
    chance = random.Random(seed)
    schema = chance.choice(SCHEMAS)
    drawn = [any_view(chance, schema, 0, 1) for _ in range(3)]
    return [[chance.choice([*drawn, any_view(chance, schema, 0, 1)]) for _ in range(length)] for length in many]


class TellsTest(unittest.TestCase):

    def test_both_directions(self):
        self.assertIs(tells([PLACES, REGIONS], [SMALL]), True)
        self.assertIs(tells([SMALL], [PLACES, REGIONS]), False)
        self.assertIs(tells([PLACES, REGIONS], [SMALL, PLACES, BIG]), True)
        self.assertIs(tells([PLACES], [SMALL, PLACES]), False)
        self.assertIs(tells([REGIONS, PLACES], [PLACES, REGIONS]), True)
        wide, narrow = shop_views("view region\n  shown size\n  range size 0 -", "view region\n  shown size\n  range size 1 -")
        self.assertEqual([tells([wide], [narrow]), tells([narrow], [wide])], [True, False])

    def test_empty_lists(self):
        self.assertEqual([tells([], []), tells([BIG], []), tells([], [BIG]), tells([], [NEVER])], [True, True, False, True])

    def test_as_answers_say(self):
        told = []
        for seed in range(150):
            first, second = any_lists(seed, (3, 3))
            told.append(tells(first, second))
            self.assertIs(told[-1], answers_all(first, second))
            self.assertTrue(tells(first, first))
        self.assertIn(True, told)

    def test_lists_are_not_changed(self):
        first, second = [PLACES, REGIONS], [SMALL]
        tells(first, second)
        superfluous(first)
        core(first)
        costs = [1, 2]
        cheapest(first, costs, second)
        self.assertEqual([first, second, costs], [[PLACES, REGIONS], [SMALL], [1, 2]])


class SuperfluousTest(unittest.TestCase):

    def test_example(self):
        self.assertEqual([superfluous([PLACES, REGIONS, SMALL]), core([PLACES, REGIONS, SMALL])], [(2,), (0, 1)])

    def test_equal_views(self):
        self.assertEqual(superfluous([BIG, BIG]), (0, 1))
        self.assertEqual(superfluous([BIG, View.parse(Schema.parse(str(SHOPS)), str(BIG)), REGIONS]), (0, 1))
        self.assertEqual(superfluous([BIG]), ())
        self.assertEqual(superfluous([NEVER]), (0,))
        self.assertEqual(superfluous([]), ())

    def test_each_by_all_others(self):
        # From each two of these the third follows, but from one no other one.
        views = shop_views("view region", "view region\n  range size 6 -", "view region\n  range size - 5")
        self.assertEqual(superfluous(views), (0, 1, 2))
        self.assertEqual(len(core(views)), 2)

    def test_as_answers_say(self):
        for seed in range(200):
            views, = any_lists(seed, (seed % 4,))
            told = tuple(at for at in range(len(views)) if can_answer(views[:at] + views[at + 1:], views[at]))
            self.assertEqual(superfluous(views), told, seed)


class CoreTest(unittest.TestCase):

    def check(self, views):
        """See that a core is one, by all smaller choices."""
        found = core(views)
        self.assertEqual(list(found), sorted(set(found)))
        self.assertIsInstance(found, tuple)
        self.assertTrue(answers_all([views[at] for at in found], views))
        for smaller in itertools.combinations(views, len(found) - 1) if found else []:
            self.assertFalse(answers_all(smaller, views))
        return found

    def test_some(self):
        self.assertEqual(self.check([]), ())
        self.assertEqual(self.check([BIG]), (0,))
        self.assertEqual(self.check([NEVER]), ())
        self.assertEqual(self.check([NEVER, BIG]), (1,))
        self.assertEqual(len(self.check([BIG, BIG, BIG])), 1)
        self.assertEqual(self.check([PLACES, REGIONS, BIG]), (0, 1))
        self.assertEqual(self.check([PLACES, BIG]), (0, 1))

    def test_drawn_lists(self):
        sizes = []
        for seed in range(250):
            views, = any_lists(seed, (seed % 4,))
            sizes.append(len(views) - len(self.check(views)))
        self.assertTrue({0, 1, 2} <= set(sizes))


class CheapestTest(unittest.TestCase):

    def check(self, candidates, costs, wanted):
        """See that the cheapest choice is one, by all choices; return its cost."""
        found = cheapest(candidates, costs, wanted)
        fits = [sum(costs[at] for at in choice) for many in range(4)
                for choice in itertools.combinations(range(len(candidates)), many)
                if answers_all([candidates[at] for at in choice], wanted)]
        if found is None:
            self.assertEqual(fits, [])
            return None
        self.assertIsInstance(found, tuple)
        self.assertEqual(list(found), sorted(set(found)))
        self.assertLessEqual(len(found), 3)
        self.assertTrue(answers_all([candidates[at] for at in found], wanted))
        self.assertEqual(sum(costs[at] for at in found), min(fits))
        return min(fits)

    def test_example(self):
        self.assertEqual(cheapest([PLACES, REGIONS, SMALL], [5, 5, 1], [SMALL]), (2,))

    def test_costs(self):
        candidates = [PLACES, REGIONS, SMALL]
        self.assertEqual(cheapest(candidates, [5, 5, 11], [SMALL]), (0, 1))
        self.assertEqual(self.check(candidates, [5, 5, 10], [SMALL]), 10)
        self.assertEqual(self.check(candidates, [0, 0, 0], [SMALL]), 0)
        self.assertEqual(self.check(candidates, [0, 0, 1], [SMALL]), 0)
        self.assertEqual(self.check(candidates, [1000, 1000, 1000], [SMALL, REGIONS, PLACES]), 2000)
        self.assertEqual(cheapest([BIG, SMALL, BIG], [3, 1, 2], [BIG]), (2,))

    def test_none(self):
        self.assertIsNone(cheapest([], [], [BIG]))
        self.assertIsNone(cheapest([PLACES, SMALL], [0, 0], [BIG]))
        self.assertEqual(cheapest([], [], []), ())
        self.assertEqual(cheapest([], [], [NEVER]), ())
        self.assertEqual(cheapest([BIG, PLACES], [7, 9], []), ())

    def test_at_most_three(self):
        schema = Schema.parse("table a\n  plain p\n  plain q\ntable b\n  plain p\n  ref r a\ntable c\n  plain p\n  ref r b")
        # Four parts of one view; together all of it.
        texts = ["view a\n  shown p", "view a\n  shown q", "view b\n  shown p\n  follow r", "view c\n  shown p\n  follow r"]
        parts = [View.parse(schema, text) for text in texts]
        view = View.parse(schema, "view c\n  shown p\n  follow r\n    shown p\n    follow r\n      shown p\n      shown q")
        whole = View.parse(schema, "view a\n  shown p\n  shown q")
        self.assertIsNone(cheapest(parts, [0, 0, 0, 0], [view]))
        self.assertEqual(cheapest([*parts, whole], [0, 0, 0, 0, 1000], [view]), (2, 3, 4))

    def test_drawn_lists(self):
        costs = []
        for seed in range(120):
            chance = random.Random(seed)
            candidates, wanted = any_lists(seed, (chance.choice([1, 3, 5]), chance.choice([1, 2, 3])))
            if chance.random() < 0.5:
                wanted = wanted[:1] + chance.sample(candidates, 1)
            costs.append(self.check(candidates, [chance.choice([0, 1, 2, 3, 1000]) for _ in candidates], wanted))
        self.assertTrue(None in costs and any(costs))


if __name__ == "__main__":
    unittest.main()
