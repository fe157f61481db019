"""Points 2, 10, 11 and 12: whether a batch can be followed, and evidence that it cannot."""

import random
import unittest

from makers import BIG, PLACES, REGIONS, SHOPS, any_base, any_batch, any_case, any_view
from onlyviews.alike import ends
from onlyviews.bases import Base
from onlyviews.deciding import can_follow, doubt, is_doubt
from onlyviews.schemas import Schema
from onlyviews.views import View
from oracle import all_tables, is_evidence, made, shown_by, tables_of
from samples import ANY_VALUES

DEEP = Schema.parse("table a\n  plain p\ntable b\n  plain p\n  ref r a\ntable c\n  plain p\n  ref r b\n  ref s b")


def shop_view(text):
    return View.parse(SHOPS, text)


def deep_view(text):
    return View.parse(DEEP, text)


class DecidingCase(unittest.TestCase):

    def decides(self, views, changes, index=0):
        """Return whether a batch can be followed, having seen that all three functions agree."""
        told = can_follow(views, changes, index)
        evidence = doubt(views, changes, index)
        self.assertIs(told, evidence is None)
        if evidence is not None:
            self.assertTrue(is_evidence(views, changes, index, evidence), (list(map(str, views)), changes))
            self.assertIs(is_doubt(views, changes, index, evidence), True)
        return told


class ExamplesTest(DecidingCase):

    def test_of_the_interface(self):
        changes = [("insert", "shop", (5, 1, 3))]
        self.assertIs(can_follow([BIG], changes, 0), False)
        self.assertIs(can_follow([BIG, REGIONS], changes, 0), True)
        self.assertIs(is_doubt([BIG], changes, 0, doubt([BIG], changes, 0)), True)

    def test_deletes(self):
        for view in (BIG, REGIONS, PLACES):
            self.assertTrue(self.decides([view], [("delete", "shop", (5, 1, 3))]))
            self.assertTrue(self.decides([view], [("delete", "region", (3, 12))]))

    def test_sets_with_which_no_range_begins_to_hold(self):
        for low, high in [(12, 10), (12, 1000), (9, 0), (12, 9), (10, 9), (10 ** 6, -10 ** 6), (9, 9)]:
            self.assertTrue(self.decides([BIG], [("set", "region", (3, low), (3, high))]))
        self.assertTrue(self.decides([BIG], [("set", "shop", (5, 0, 3), (5, 1, 3))]))

    def test_sets_with_which_a_range_begins_to_hold(self):
        for low, high in [(9, 10), (0, 12), (-10 ** 6, 10 ** 6)]:
            changes = [("set", "region", (3, low), (3, high))]
            self.assertFalse(self.decides([BIG], changes))
            self.assertFalse(self.decides([BIG, REGIONS], changes))
            # All shops with their regions tell which come in.
            self.assertTrue(self.decides([BIG, PLACES], changes))
            self.assertTrue(self.decides([BIG, REGIONS, PLACES], changes))
            # Those of open shops alone do not tell all of them, but all that a view of open shops needs.
            opened = shop_view("view shop\n  range open 1 -\n  follow place")
            self.assertFalse(self.decides([BIG, opened], changes))
            both = shop_view("view shop\n  range open 2 -\n  follow place\n    shown size\n    range size 10 -")
            self.assertFalse(self.decides([both, opened], changes))
            shown = shop_view("view shop\n  shown open\n  range open 1 -\n  follow place")
            self.assertTrue(self.decides([both, shown], changes))

    def test_inserts_of_root_rows(self):
        changes = [("insert", "shop", (5, 1, 3))]
        self.assertFalse(self.decides([BIG], changes))
        self.assertTrue(self.decides([BIG, REGIONS], changes))
        # Without sizes, but with the right ends.
        self.assertFalse(self.decides([BIG, shop_view("view region\n  range size 10 -")], changes))
        plain = shop_view("view shop\n  follow place\n    range size 10 -")
        self.assertFalse(self.decides([plain], changes))
        self.assertFalse(self.decides([plain, shop_view("view region\n  range size 9 -")], changes))
        self.assertTrue(self.decides([plain, shop_view("view region\n  range size 10 -")], changes))
        self.assertTrue(self.decides([plain, shop_view("view region\n  range size - 9")], changes))
        # Two views tell it together.
        halves = [shop_view("view region\n  range size - 20"), shop_view("view region\n  range size 10 -")]
        self.assertTrue(self.decides([plain, *halves], changes))

    def test_inserts_of_rows_whose_own_ranges_do_not_hold(self):
        view = shop_view("view shop\n  range open 1 -\n  follow place\n    shown size")
        self.assertTrue(self.decides([view], [("insert", "shop", (5, 0, 3))]))
        self.assertFalse(self.decides([view], [("insert", "shop", (5, 1, 3))]))

    def test_ranges_on_a_row_at_another_node(self):
        view = deep_view("view c\n  follow r\n    follow r\n      range p 1 -")
        changes = [("set", "a", (0, 0), (0, 1))]
        self.assertFalse(self.decides([view], changes))
        self.assertFalse(self.decides([view, deep_view("view c\n  follow r")], changes))
        self.assertFalse(self.decides([view, deep_view("view b\n  follow r")], changes))
        self.assertTrue(self.decides([view, deep_view("view c\n  follow r"), deep_view("view b\n  follow r")], changes))
        self.assertTrue(self.decides([view, deep_view("view c\n  follow r\n    follow r")], changes))
        self.assertFalse(self.decides([view, deep_view("view c\n  follow s\n    follow r")], changes))

    def test_rows_that_a_batch_tells_are_known(self):
        alone = [("insert", "shop", (5, 1, 3))]
        self.assertTrue(self.decides([BIG], [("insert", "region", (3, 12))] + alone))
        self.assertTrue(self.decides([BIG], alone + [("set", "region", (3, 1), (3, 12)), ("set", "region", (3, 12), (3, 1))]))
        self.assertTrue(self.decides([BIG], alone + [("delete", "shop", (5, 1, 3))]))
        self.assertFalse(self.decides([BIG], [("insert", "region", (4, 12))] + alone))

    def test_waiting_for_the_way_back(self):
        up, down = ("set", "region", (3, 1), (3, 10)), ("set", "region", (3, 10), (3, 1))
        self.assertFalse(self.decides([BIG], [up]))
        self.assertTrue(self.decides([BIG], [up, down]))
        self.assertTrue(self.decides([BIG], [down, up]))
        self.assertTrue(self.decides([BIG], [down]))

    def test_sets_of_references(self):
        changes = [("set", "shop", (5, 1, 3), (5, 1, 4))]
        self.assertFalse(self.decides([BIG], changes))
        self.assertTrue(self.decides([BIG, REGIONS], changes))
        self.assertTrue(self.decides([PLACES], changes))
        self.assertTrue(self.decides([PLACES], [("set", "shop", (5, 1, 3), (5, 0, 3))]))


class BatchesTest(DecidingCase):

    def test_no_changes(self):
        for views in ([BIG], [BIG, REGIONS, PLACES]):
            for index in range(len(views)):
                self.assertTrue(self.decides(views, [], index))

    def test_changes_that_cancel_one_another(self):
        shop, region = (5, 1, 3), (3, 12)
        self.assertTrue(self.decides([BIG], [("insert", "shop", shop), ("delete", "shop", shop)]))
        self.assertTrue(self.decides([BIG], [("delete", "shop", shop), ("insert", "shop", shop)]))
        self.assertTrue(self.decides([BIG], [("set", "region", region, region)]))

    def test_rows_deleted_and_inserted_anew(self):
        # The shops of a region that was deleted in between are told by the batch.
        changes = [("delete", "region", (3, 1)), ("insert", "region", (3, 12))]
        self.assertTrue(self.decides([BIG], changes))
        self.assertTrue(self.decides([BIG], changes + [("insert", "shop", (5, 1, 3))]))
        changes = [("delete", "shop", (5, 0, 3)), *changes, ("insert", "shop", (5, 0, 3))]
        self.assertTrue(self.decides([BIG], changes))

    def test_eight_changes(self):
        changes = [("insert", "shop", (key, 0, 10 ** 6 - key)) for key in range(8)]
        self.assertFalse(self.decides([BIG], changes))
        self.assertTrue(self.decides([BIG, REGIONS], changes))

    def test_ids_at_the_bounds(self):
        for key, other in [(0, 0), (10 ** 6, 10 ** 6), (0, 10 ** 6), (10 ** 6, 0)]:
            self.assertFalse(self.decides([BIG], [("insert", "shop", (key, 1, other))]))
            self.assertTrue(self.decides([BIG, REGIONS], [("insert", "shop", (key, 1, other))]))
            self.assertFalse(self.decides([BIG], [("set", "region", (other, 1), (other, 10))]))

    def test_full_copies_of_all_tables(self):
        texts = ["view a\n  shown p", "view b\n  shown p\n  follow r", "view c\n  shown p\n  follow r\n  follow s"]
        copies = [deep_view(text) for text in texts]
        for seed in range(150):
            chance = random.Random(seed)
            base = any_base(chance, DEEP)
            changes = any_batch(chance, base, 4)
            for index in range(3):
                self.assertTrue(self.decides(copies, changes, index), seed)


class ValuesTest(DecidingCase):

    def test_ranges_that_never_hold(self):
        never = shop_view("view shop\n  follow place\n    shown size\n    range size 11 10")
        for changes in ([("insert", "shop", (5, 1, 3))], [("set", "region", (3, 0), (3, 10))]):
            self.assertTrue(self.decides([never], changes))
            self.assertTrue(self.decides([never, BIG], changes))
            self.assertFalse(self.decides([never, BIG], changes, 1))

    def test_values_that_ends_leave(self):
        # In a region of size 5 alone the size is told without being shown.
        only = shop_view("view region\n  range size 5 5")
        for low, high, can in [(5, 5, True), (5, 6, False), (4, 5, False)]:
            view = shop_view(f"view shop\n  follow place\n    shown size\n    range size {low} {high}")
            self.assertIs(self.decides([view, only], [("insert", "shop", (5, 1, 3))]), can)
        # The same where ends of two views leave one integer, by what one shows and the other lacks.
        view = shop_view("view shop\n  follow place\n    shown size\n    range size 5 5")
        halves = [shop_view("view region\n  range size 5 -"), shop_view("view region\n  range size 6 -")]
        self.assertTrue(self.decides([view, *halves], [("insert", "shop", (5, 1, 3))]))
        self.assertFalse(self.decides([view, halves[0]], [("insert", "shop", (5, 1, 3))]))

    def test_values_between_and_beyond_ends(self):
        for low, high in [(-1000, 1000), (0, 1), (-1000, -1000), (1000, 1000), (-1000, -999), (0, 0), (3, 2)]:
            view = shop_view(f"view shop\n  follow place\n    range size {low} {high}")
            same = shop_view(f"view region\n  range size {low} {high}")
            self.assertIs(self.decides([view], [("insert", "shop", (5, 1, 3))]), low > high)
            self.assertTrue(self.decides([view, same], [("insert", "shop", (5, 1, 3))]))
            for end in (low, high):
                for old, new in [(end - 1, end), (end, end - 1), (end, end + 1), (end + 1, end)]:
                    begins = not low <= old <= high and low <= new <= high
                    self.assertIs(self.decides([view], [("set", "region", (3, old), (3, new))]), not begins)

    def test_beyond_the_outermost_ends(self):
        for text in ("range size 1000 -", "range size - -1000"):
            view = shop_view(f"view shop\n  follow place\n    {text}")
            shown = shop_view(f"view region\n  {text}")
            self.assertFalse(self.decides([view], [("insert", "shop", (5, 1, 3))]))
            self.assertTrue(self.decides([view, shown], [("insert", "shop", (5, 1, 3))]))
        # A view of sizes from -1000 on, and one of those up to 1000, leave what is beyond apart.
        view = shop_view("view shop\n  follow place\n    range size -1000 1000")
        parts = [shop_view("view region\n  range size -1000 -"), shop_view("view region\n  range size - 1000")]
        self.assertTrue(self.decides([view, *parts], [("insert", "shop", (5, 1, 3))]))
        self.assertFalse(self.decides([view, parts[0]], [("insert", "shop", (5, 1, 3))]))

    def test_ranges_without_ends(self):
        view = shop_view("view shop\n  range open - -\n  follow place\n    range size - -")
        self.assertTrue(self.decides([view], [("insert", "shop", (5, 1, 3))]))
        self.assertTrue(self.decides([view], [("set", "region", (3, 1), (3, 2))]))


class EvidenceTest(DecidingCase):

    CHANGES = [("insert", "shop", (5, 1, 3))]

    def pair(self, *sizes):
        return tuple(Base(SHOPS, [("region", (3, size))]) for size in sizes)

    def test_all_evidence_is_taken(self):
        for sizes in [(10, 9), (9, 10), (10, 11), (-10 ** 6, 10 ** 6)]:
            self.assertIs(is_doubt([BIG], self.CHANGES, 0, self.pair(*sizes)), True)

    def test_what_is_no_evidence(self):
        for sizes in [(1, 2), (10, 10)]:
            self.assertIs(is_doubt([BIG], self.CHANGES, 0, self.pair(*sizes)), False)
        first, second = self.pair(10, 9)
        # Other than alike, not allowed, another view, another kind of value, the same base twice.
        self.assertIs(is_doubt([BIG, REGIONS], self.CHANGES, 0, (first, second)), False)
        self.assertIs(is_doubt([BIG, PLACES], self.CHANGES, 1, (first, second)), False)
        self.assertIs(is_doubt([BIG], [("insert", "shop", (5, 1, 4))], 0, (first, second)), False)
        self.assertIs(is_doubt([BIG], self.CHANGES, 0, (first, Base(SHOPS))), False)
        self.assertIs(is_doubt([BIG], self.CHANGES, 0, (Base(SHOPS), second)), False)
        for value in [[first, second], (first,), (first, second, second), (first, None), (0, second), (first, first),
                      first, ((first, second),), {0: first, 1: second}]:
            self.assertIs(is_doubt([BIG], self.CHANGES, 0, value), False)

    def test_bases_of_another_schema(self):
        schema = Schema.parse(str(SHOPS).replace("open", "opened"))
        others = tuple(Base(schema, [("region", (3, size))]) for size in (10, 9))
        self.assertIs(is_doubt([BIG], self.CHANGES, 0, others), False)
        self.assertIs(is_doubt([BIG], self.CHANGES, 0, (self.pair(10)[0], others[1])), False)
        copy = Schema.parse(str(SHOPS))
        others = tuple(Base(copy, [("region", (3, size))]) for size in (10, 9))
        self.assertIs(is_doubt([BIG], self.CHANGES, 0, others), True)

    def test_any_value(self):
        for value in ANY_VALUES + [(one, other) for one in ANY_VALUES[:12] for other in ANY_VALUES[-3:]]:
            self.assertIs(is_doubt([BIG], self.CHANGES, 0, value), False)

    def test_nothing_is_changed(self):
        views, changes, bases = [BIG, PLACES], list(self.CHANGES), self.pair(10, 9)
        before = [tables_of(base) for base in bases]
        is_doubt(views, changes, 0, bases)
        can_follow(views, changes, 0)
        first = doubt(views, changes, 0)
        self.assertEqual([views, changes, [tables_of(base) for base in bases]], [[BIG, PLACES], self.CHANGES, before])
        first[0].make(changes)
        self.assertTrue(is_doubt(views, changes, 0, doubt(views, changes, 0)))


class AllBasesTest(DecidingCase):

    def agrees(self, schema, views, changes, states):
        """See that no two of some tables contradict what can be followed; return how often it can and can't."""
        told = [self.decides(views, changes, index) for index in range(len(views))]
        found = {}
        for tables in states:
            later = made(schema, tables, changes)
            if not isinstance(later, int):
                key = repr([sorted(shown_by(view, tables).items()) for view in views])
                behind = [shown_by(view, later) for view in views]
                other = found.setdefault(key, behind)
                for index, can in enumerate(told):
                    self.assertTrue(not can or behind[index] == other[index], (list(map(str, views)), changes, tables))
        return told

    def test_all_bases_of_small_schemas(self):
        texts = ["table a\n  plain p\ntable b\n  ref r a", "table a\n  plain p\ntable b\n  ref r a\n  ref s a",
                 "table a\n  plain p\ntable b\n  plain p\n  ref r a", "table a\n  plain p\ntable b\n  ref r a\ntable c\n  ref r b"]
        told = []
        for text in texts:
            schema = Schema.parse(text)
            states = list(all_tables(schema, (0, 1), (0, 1, 2) if "plain p\n  ref" not in text else (0, 1)))
            for seed in range(50):
                chance = random.Random(seed)
                views = [any_view(chance, schema, 1, 2) for _ in range(chance.choice([1, 2]))]
                base = any_base(chance, schema, 2, (0, 1, 2))
                told += self.agrees(schema, views, any_batch(chance, base, chance.choice([1, 1, 2]), 1, (0, 1, 2)), states)
        self.assertTrue(100 < sum(told) < len(told) - 10, (sum(told), len(told)))

    def test_some_bases_of_larger_schemas(self):
        told = []
        for seed in range(400):
            chance = random.Random(seed)
            base, views, changes = any_case(chance)
            later = made(base.schema, tables_of(base), changes)
            states = [tables_of(base)]
            for _ in range(30):
                # Rows that the batch tells are put back as they were there.
                other = any_base(chance, base.schema, 3, (0, 1, 2))
                rows = {table: {**other.rows(table), **{key: row for key, row in base.rows(table).items()
                                                       if later[table].get(key) != row or chance.random() < 0.7}}
                        for table in base.schema.tables}
                gone = {table: [key for key in later[table] if key not in base.rows(table)] for table in rows}
                states.append({table: {key: row for key, row in rows[table].items() if key not in gone[table]}
                               for table in rows})
            states = [tables for tables in states if not dangling(base.schema, tables)]
            told += self.agrees(base.schema, views, changes, states)
        self.assertTrue(100 < sum(told) < len(told) - 30, (sum(told), len(told)))


def dangling(schema, tables):
    """Return whether a reference of some tables leads to nothing."""
    return any(target is not None and part not in tables[target] for table, rows in tables.items()
               for row in rows.values() for (_, target), part in zip(schema.columns(table), row[1:]))


class BoundsTest(DecidingCase):

    def test_the_largest_questions(self):
        texts = ["table a\n  plain p\n  plain q\ntable b\n  plain p\n  plain q\n  ref r a\n  ref s a\ntable c\n  plain p\n"
                 "  plain q\n  ref r b", "table a\n  plain p\n  plain q\ntable b\n  plain p\n  plain q\n  ref r a\ntable c\n"
                 "  plain p\n  plain q\n  ref r b\n  ref s b"]
        told = []
        for seed in range(40):
            chance = random.Random(seed)
            schema = Schema.parse(chance.choice(texts))
            views = [any_view(chance, schema, -8, 8) for _ in range(3)]
            if max([len(found) for found in ends(views).values()], default=0) > 8:
                continue
            base = any_base(chance, schema, 12, range(-12, 13))
            changes = any_batch(chance, base, 8, 12, range(-12, 13))
            told += [self.decides(views, changes, index) for index in range(3)]
        self.assertTrue(10 < sum(told) < len(told) - 10)


if __name__ == "__main__":
    unittest.main()
