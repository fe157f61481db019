"""Point 9: ends and used columns; point 10: alike bases."""

import random
import unittest

from makers import BIG, PLACES, REGIONS, SCHEMAS, SHOPS, any_base, any_view
from onlyviews.alike import difference, ends, used
from onlyviews.bases import Base
from onlyviews.schemas import Schema
from onlyviews.views import View
from oracle import shown_by, tables_of

TREE = Schema.parse("table a\n  plain p\n  plain q\ntable b\n  plain p\n  ref r a\n  ref s a\ntable c\n  plain q\n  ref r b")


def view(text):
    return View.parse(TREE, text)


class EndsTest(unittest.TestCase):

    def test_example(self):
        first, second = Base(SHOPS, [("region", (3, 12))]), Base(SHOPS, [("region", (3, 0))])
        self.assertEqual(ends([BIG]), {("region", "size"): (10,)})
        self.assertEqual(used([BIG]), {"region": ("size",), "shop": ("place",)})
        self.assertIsNone(difference([BIG], first, second))

    def test_no_ranges(self):
        self.assertEqual(ends([]), {})
        self.assertEqual(ends([view("view a\n  shown p"), view("view c\n  follow r")]), {})

    def test_ranges_without_ends(self):
        views = [view("view a\n  range p - -"), view("view b\n  follow r\n    range q - -")]
        self.assertEqual(ends(views), {("a", "p"): (), ("a", "q"): ()})
        self.assertEqual(ends(views + [view("view a\n  range q - 0")]), {("a", "p"): (), ("a", "q"): (0,)})

    def test_ends_are_ascending_and_different(self):
        views = [view("view a\n  range p 10 -2"), view("view b\n  range p 5 5\n  follow r\n    range p 10 99\n  follow s\n"
                                                       "    range p - 7"), view("view a\n  range p -1000 10")]
        self.assertEqual(ends(views), {("a", "p"): (-1000, -2, 7, 10, 99), ("b", "p"): (5,)})
        many = [view(f"view a\n  range p {low} {low + 1}") for low in (6, 4, 2)]
        self.assertEqual(ends(many), {("a", "p"): (2, 3, 4, 5, 6, 7)})

    def test_used_columns(self):
        self.assertEqual(used([view("view a")]), {"a": (), "b": (), "c": ()})
        self.assertEqual(used([view("view b\n  follow s\n    range q - -")]), {"a": ("q",), "b": ("s",), "c": ()})
        self.assertEqual(used([view("view b\n  follow s\n    shown q"), view("view c\n  shown q\n  follow r\n    follow r"),
                               view("view b\n  shown p\n  range p 1 1\n  follow r\n    shown p")]),
                         {"a": ("p", "q"), "b": ("p", "r", "s"), "c": ("q", "r")})

    def test_new_dicts(self):
        views = [BIG]
        ends(views).clear()
        used(views).clear()
        self.assertEqual([ends(views), used(views)], [{("region", "size"): (10,)}, {"region": ("size",), "shop": ("place",)}])
        self.assertEqual(views, [BIG])


class DifferenceTest(unittest.TestCase):

    def test_first_view_and_least_id(self):
        first = Base(SHOPS, [("region", (3, 12)), ("region", (4, 10)), ("region", (9, 0)), ("shop", (7, 1, 3))])
        second = Base(SHOPS, [("region", (3, 12)), ("region", (4, 11)), ("region", (8, 0)), ("shop", (6, 1, 3)),
                              ("shop", (7, 1, 4))])
        for one, other in [(first, second), (second, first)]:
            self.assertEqual(difference([REGIONS, BIG], one, other), (0, 4))
            self.assertEqual(difference([BIG, REGIONS], one, other), (0, 6))
            self.assertEqual(difference([PLACES], one, other), (0, 6))
        self.assertIsNone(difference([], first, second))

    def test_later_views(self):
        first, second = Base(SHOPS, [("region", (3, 9))]), Base(SHOPS, [("region", (3, 8))])
        self.assertEqual(difference([BIG, PLACES, REGIONS], first, second), (2, 3))
        self.assertEqual(difference([BIG, PLACES, REGIONS], second, first), (2, 3))

    def test_rows_in_one_base_alone(self):
        first, second = Base(SHOPS, [("region", (3, 9)), ("region", (5, 9))]), Base(SHOPS, [("region", (5, 9))])
        self.assertEqual([difference([REGIONS], first, second), difference([REGIONS], second, first)], [(0, 3), (0, 3)])
        self.assertIsNone(difference([REGIONS], first, first.fork()))

    def test_as_told_plainly(self):
        for seed in range(300):
            chance = random.Random(seed)
            schema = chance.choice(SCHEMAS)
            views = [any_view(chance, schema) for _ in range(3)]
            first, second = any_base(chance, schema, 2, (0, 1)), any_base(chance, schema, 2, (0, 1))
            told = None
            for index, kept in reversed(list(enumerate(views))):
                one, other = [shown_by(kept, tables_of(base)) for base in (first, second)]
                keys = [key for key in {**one, **other} if one.get(key) != other.get(key)]
                told = (index, min(keys)) if keys else told
            self.assertEqual(difference(views, first, second), told)


if __name__ == "__main__":
    unittest.main()
