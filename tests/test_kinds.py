"""Point 13: kinds of changes, hindrances and helpers."""

import itertools
import random
import unittest

from makers import BIG, PLACES, REGIONS, SCHEMAS, SHOPS, any_base, any_change, any_view
from onlyviews.deciding import can_follow, doubt
from onlyviews.kinds import hindrance, is_self_keeping, kinds, least_helpers
from onlyviews.schemas import Schema, is_row
from onlyviews.views import View
from oracle import is_evidence

DEEP = Schema.parse("table a\n  plain p\n  plain q\ntable b\n  plain p\n  ref r a\n  ref s a\ntable c\n  ref r b")


def kind_of(schema, change):
    """Return the kind of a single change, or None if it is of none."""
    if change[0] != "set":
        return change[:2]
    columns = [name for name, _ in schema.columns(change[1])]
    unlike = [name for name, old, new in zip(columns, change[2][1:], change[3][1:]) if old != new]
    return (*change[:2], unlike[0]) if len(unlike) == 1 and change[2][0] == change[3][0] else None


class KindsCase(unittest.TestCase):

    def hindered(self, views, kind, index=0):
        """Return whether there is a hindrance, having seen by evidence that it is one."""
        change = hindrance(views, index, kind)
        if change is None:
            return False
        schema = views[index].schema
        self.assertIsInstance(change, tuple)
        self.assertEqual(kind_of(schema, change), kind)
        self.assertTrue(all(is_row(schema, change[1], row) for row in change[2:]), change)
        self.assertIs(can_follow(views, [change], index), False)
        self.assertTrue(is_evidence(views, [change], index, doubt(views, [change], index)))
        return True


class HindranceTest(KindsCase):

    def test_kinds_in_order(self):
        self.assertEqual(kinds(SHOPS), [
            ("insert", "region"), ("delete", "region"), ("set", "region", "size"), ("insert", "shop"),
            ("delete", "shop"), ("set", "shop", "open"), ("set", "shop", "place")])
        self.assertEqual(kinds(DEEP), [
            ("insert", "a"), ("delete", "a"), ("set", "a", "p"), ("set", "a", "q"), ("insert", "b"), ("delete", "b"),
            ("set", "b", "p"), ("set", "b", "r"), ("set", "b", "s"), ("insert", "c"), ("delete", "c"), ("set", "c", "r")])
        self.assertEqual(kinds(Schema.parse("table a")), [("insert", "a"), ("delete", "a")])
        kinds(SHOPS).clear()
        self.assertEqual(len(kinds(SHOPS)), 7)

    def test_example(self):
        wanted = [("insert", "shop"), ("set", "region", "size")]
        self.assertIsNone(hindrance([BIG], 0, ("delete", "shop")))
        self.assertIs(is_self_keeping([BIG, REGIONS], wanted[:1]), True)
        self.assertIs(is_self_keeping([BIG, REGIONS], wanted), False)
        self.assertEqual(least_helpers([BIG], [REGIONS, PLACES], wanted), (0, 1))

    def test_each_kind(self):
        told = {kind: self.hindered([BIG], kind) for kind in kinds(SHOPS)}
        self.assertEqual([kind for kind in told if told[kind]],
                         [("set", "region", "size"), ("insert", "shop"), ("set", "shop", "place")])
        told = {kind: self.hindered([BIG, REGIONS, PLACES], kind) for kind in kinds(SHOPS)}
        self.assertNotIn(True, told.values())
        told = {kind: self.hindered([BIG, REGIONS, PLACES], kind, 2) for kind in kinds(SHOPS)}
        self.assertNotIn(True, told.values())
        view = View.parse(SHOPS, "view shop\n  range open 0 -\n  follow place\n    shown size")
        told = {kind: self.hindered([view], kind) for kind in kinds(SHOPS)}
        # A range on the root itself begins to hold; a size shown elsewhere is known where it changes.
        self.assertEqual([kind for kind in told if told[kind]],
                         [("insert", "shop"), ("set", "shop", "open"), ("set", "shop", "place")])

    def test_deletes_can_always_be_followed(self):
        for seed in range(150):
            chance = random.Random(seed)
            schema = chance.choice(SCHEMAS)
            views = [any_view(chance, schema) for _ in range(chance.choice([1, 2, 3]))]
            for table in schema.tables:
                self.assertFalse(self.hindered(views, ("delete", table)))

    def test_values_at_beside_and_far_from_the_ends(self):
        kind = ("set", "region", "size")

        def shops(low, high):
            return View.parse(SHOPS, f"view shop\n  follow place\n    range size {low} {high}")

        for low, high in [(5, 5), (5, 6), (-999, 999), (0, 999), (-999, 0)]:
            view = shops(low, high)
            self.assertTrue(self.hindered([view], kind))
            # The shops of all other regions are told, or of all but those with one size.
            self.assertFalse(self.hindered([view, shops("-", low - 1), shops(high + 1, "-")], kind))
            if low > -999:
                self.assertTrue(self.hindered([view, shops("-", low - 2), shops(high + 1, "-")], kind))
            if high < 999:
                self.assertTrue(self.hindered([view, shops("-", low - 1), shops(high + 2, "-")], kind))
        # Far from all ends there are values, too.
        self.assertTrue(self.hindered([shops(-1000, 1000)], kind))
        self.assertTrue(self.hindered([shops(-1000, "-"), shops(-1000, 1000)], kind))
        self.assertTrue(self.hindered([shops("-", 1000), shops(-1000, 1000)], kind))
        self.assertFalse(self.hindered([shops(1000, 1000), shops("-", 999)], ("set", "shop", "open")))
        self.assertFalse(self.hindered([shops("-", "-")], kind))
        self.assertFalse(self.hindered([shops(1000, -1000)], kind))

    def test_one_value_between_ends(self):
        # A set from 4 to 5 alone cannot be followed: shops of regions of size 4 are in no view.
        texts = ["5 -", "- 3"]
        views = [View.parse(SHOPS, f"view shop\n  follow place\n    range size {text}") for text in texts]
        change = hindrance(views, 0, ("set", "region", "size"))
        self.assertEqual(change[2][1], 4)
        self.assertGreaterEqual(change[3][1], 5)
        self.assertTrue(self.hindered(views, ("set", "region", "size")))
        views = [View.parse(SHOPS, f"view shop\n  follow place\n    range size {text}") for text in ("5 5", "- 4", "6 -")]
        self.assertFalse(self.hindered(views, ("set", "region", "size")))
        self.assertFalse(self.hindered(views, ("set", "region", "size"), 2))

    def test_the_other_values_of_a_row(self):
        # Only closed shops are at stake, so that a hindrance is a closed one, of a large region.
        views = [View.parse(SHOPS, "view shop\n  follow place\n    shown size"), View.parse(
            SHOPS, "view shop\n  range open - 0\n  follow place\n    range size 10 -")]
        change = hindrance(views, 1, ("insert", "shop"))
        self.assertLessEqual(change[2][1], 0)
        self.assertTrue(self.hindered(views, ("insert", "shop"), 1))

    def test_sets_of_one_of_two_references(self):
        view = View.parse(DEEP, "view b\n  follow r\n    shown p\n  follow s\n    shown q")
        told = {kind: self.hindered([view], kind) for kind in kinds(DEEP)}
        self.assertEqual([kind for kind in told if told[kind]], [("insert", "b"), ("set", "b", "r"), ("set", "b", "s")])
        helper = View.parse(DEEP, "view a\n  shown q")
        told = {kind: self.hindered([view, helper], kind) for kind in kinds(DEEP)}
        self.assertEqual([kind for kind in told if told[kind]], [("insert", "b"), ("set", "b", "r")])

    def test_beside_single_changes(self):
        told = []
        for seed in range(250):
            chance = random.Random(seed)
            schema = chance.choice(SCHEMAS)
            views = [any_view(chance, schema) for _ in range(chance.choice([1, 2, 3]))]
            index = chance.randrange(len(views))
            hindered = {kind: self.hindered(views, kind, index) for kind in kinds(schema)}
            told += hindered.values()
            for _ in range(40):
                change = any_change(chance, any_base(chance, schema))
                if change and not hindered.get(kind_of(schema, change), True):
                    self.assertTrue(can_follow(views, [change], index), (seed, change))
        self.assertTrue(100 < sum(told) < len(told) - 100)


class HelpersTest(KindsCase):

    def test_self_keeping(self):
        self.assertIs(is_self_keeping([], kinds(SHOPS)), True)
        self.assertIs(is_self_keeping([BIG], []), True)
        self.assertIs(is_self_keeping([BIG], [("delete", "shop"), ("insert", "region")]), True)
        self.assertIs(is_self_keeping([BIG], [("delete", "shop"), ("insert", "shop")]), False)
        self.assertIs(is_self_keeping([REGIONS, BIG], [("set", "region", "size")]), False)
        self.assertIs(is_self_keeping([REGIONS, BIG, PLACES], kinds(SHOPS)), True)

    def test_no_helper_needed(self):
        self.assertEqual(least_helpers([BIG], [REGIONS, PLACES], [("delete", "shop")]), ())
        self.assertEqual(least_helpers([REGIONS, PLACES], [BIG], kinds(SHOPS)), ())
        self.assertEqual(least_helpers([], [BIG], kinds(SHOPS)), ())
        self.assertEqual(least_helpers([BIG], [], []), ())

    def test_one_helper(self):
        self.assertEqual(least_helpers([BIG], [PLACES, REGIONS], [("insert", "shop")]), (1,))
        self.assertEqual(least_helpers([BIG], [PLACES, REGIONS], [("set", "region", "size")]), (0,))
        self.assertIn(least_helpers([BIG], [REGIONS, PLACES, REGIONS], [("insert", "shop")]), [(0,), (2,)])

    def test_helpers_that_help_together_alone(self):
        both = [("insert", "shop"), ("set", "region", "size")]
        self.assertEqual(least_helpers([BIG], [BIG, REGIONS, BIG, PLACES], both), (1, 3))
        # A helper must be kept itself: the regions of open shops alone cannot be.
        self.assertEqual(least_helpers([BIG], [View.parse(SHOPS, "view shop\n  range open 1 -\n  follow place")], both), None)

    def test_none_that_help(self):
        self.assertIsNone(least_helpers([BIG], [], [("insert", "shop")]))
        self.assertIsNone(least_helpers([BIG], [PLACES], [("insert", "shop")]))
        # Three views together are as many as there may be.
        self.assertIsNone(least_helpers([BIG, View.parse(SHOPS, "view shop")], [REGIONS, PLACES], kinds(SHOPS)))
        self.assertIsNone(least_helpers([BIG, BIG, BIG], [REGIONS], [("insert", "shop")]))

    def test_as_few_as_possible(self):
        sizes = []
        for seed in range(120):
            chance = random.Random(seed)
            schema = chance.choice(SCHEMAS)
            views = [any_view(chance, schema) for _ in range(chance.choice([1, 1, 2]))]
            others = [any_view(chance, schema) for _ in range(chance.choice([1, 2, 3]))]
            others += [View.parse(schema, "\n".join([f"view {table}", *[f"  shown {name}" for name, target in
                       schema.columns(table) if target is None], *[f"  follow {name}" for name, target in
                       schema.columns(table) if target is not None]])) for table in schema.tables][:5 - len(views + others)]
            wanted = chance.sample(kinds(schema), chance.randint(1, 3))
            enough = [choice for many in range(4 - len(views)) for choice in itertools.combinations(
                range(len(others)), many) if is_self_keeping(views + [others[at] for at in choice], wanted)]
            told = least_helpers(views, others, wanted)
            self.assertTrue(told in enough and len(told) == len(enough[0]) if enough else told is None, seed)
            sizes.append(None if told is None else len(told))
        self.assertTrue({None, 0, 1, 2} <= set(sizes))

    def test_nothing_is_changed(self):
        views, others, wanted = [BIG], [REGIONS, PLACES], [("insert", "shop"), ("set", "region", "size")]
        least_helpers(views, others, wanted)
        is_self_keeping(views, wanted)
        hindrance(views, 0, wanted[0])
        self.assertEqual([views, others, wanted], [[BIG], [REGIONS, PLACES],
                                                   [("insert", "shop"), ("set", "region", "size")]])


if __name__ == "__main__":
    unittest.main()
