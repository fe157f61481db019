"""Point 16: whether kept views answer a view, two bases that show that they do not, and the answer."""

import random
import unittest

from makers import BIG, PLACES, REGIONS, SCHEMAS, SHOPS, any_base, any_batch, any_view
from onlyviews.alike import ends
from onlyviews.answering import answered, can_answer, gap, is_gap
from onlyviews.bases import Base
from onlyviews.deciding import can_follow
from onlyviews.faults import AnswerError, NotAnswered
from onlyviews.schemas import Schema
from onlyviews.views import View, contents
from oracle import all_tables, is_sound, made, shown_by, tables_of
from samples import ANY_VALUES

DEEP = Schema.parse("table a\n  plain p\ntable b\n  plain p\n  ref r a\ntable c\n  plain p\n  ref r b\n  ref s b")
SMALL = View.parse(SHOPS, "view shop\n  follow place\n    range size - 10")
KEPT = [{5: ((5, 3), ()), 6: ((6, 4), ())}, {3: ((3,), (12,)), 4: ((4,), (2,))}]


def shop_views(*texts):
    return [View.parse(SHOPS, text) for text in texts]


def deep_views(*texts):
    return [View.parse(DEEP, text) for text in texts]


def shows_gap(views, view, changes, value):
    """Return whether a value is a tuple of two sound bases that show that views do not answer a view, by a walk."""
    if type(value) is not tuple or len(value) != 2:
        return False
    first, second = [tables_of(base) for base in value]
    if not is_sound(view.schema, first) or not is_sound(view.schema, second):
        return False
    if any(shown_by(kept, first) != shown_by(kept, second) for kept in views):
        return False
    later = [made(view.schema, tables, changes) for tables in (first, second)]
    if any(isinstance(tables, int) for tables in later):
        return False
    return shown_by(view, later[0]) != shown_by(view, later[1])


def any_asked_case(chance, ids=3, most_changes=8):
    """Return a base, kept views, a view that is asked and a batch that the base allows."""
    schema = chance.choice(SCHEMAS)
    views = [any_view(chance, schema) for _ in range(chance.choice([0, 1, 2, 3, 3]))]
    view = chance.choice(views) if views and chance.random() < 0.2 else any_view(chance, schema)
    base = any_base(chance, schema, ids)
    return base, views, view, any_batch(chance, base, chance.choice([0, 0, 1, 1, 3, most_changes]), ids)


class AnsweringCase(unittest.TestCase):

    def decides(self, views, view, changes=()):
        """Return whether views answer a view, having seen that all functions agree."""
        told = can_answer(views, view, changes)
        pair = gap(views, view, changes)
        self.assertIs(told, pair is None)
        if pair is not None:
            self.assertTrue(shows_gap(views, view, changes, pair), (list(map(str, views)), str(view), changes))
            self.assertIs(is_gap(views, view, pair, changes), True)
            self.assertRaises(NotAnswered, answered, views, [{} for _ in views], view, changes)
        for index, kept in enumerate(views):
            if kept == view:
                self.assertIs(can_follow(views, changes, index), told)
        return told


class ExamplesTest(AnsweringCase):

    def test_of_the_interface(self):
        self.assertEqual([can_answer([PLACES], SMALL), can_answer([PLACES, REGIONS], SMALL),
                          answered([PLACES, REGIONS], KEPT, SMALL)], [False, True, {6: ((6, 4), ())}])

    def test_of_point_16(self):
        self.assertTrue(self.decides([REGIONS, PLACES], SMALL))
        self.assertFalse(self.decides([REGIONS], SMALL))
        high, low, bare = shop_views("view region\n  range size 6 -", "view region\n  range size - 5", "view region")
        self.assertTrue(self.decides([bare, low], high))
        self.assertTrue(self.decides([bare, high], low))
        self.assertFalse(self.decides([low], high))
        self.assertFalse(self.decides([bare], high))
        off, = shop_views("view region\n  range size - 4")
        self.assertFalse(self.decides([bare, off], high))

    def test_kept_views(self):
        for view in (BIG, REGIONS, PLACES, SMALL):
            self.assertTrue(self.decides([view], view))
            self.assertTrue(self.decides([REGIONS, view], View.parse(SHOPS, str(view))))

    def test_views_that_show_less_or_have_narrower_ranges(self):
        wide, = shop_views("view shop\n  shown open\n  range open 0 10\n  follow place\n    shown size\n    range size 5 -")
        for text, can in [("shown open\n  range open 0 10\n  follow place\n    shown size\n    range size 5 -", True),
                          ("range open 0 10\n  follow place\n    range size 5 -", True),
                          ("shown open\n  range open 1 9\n  follow place\n    shown size\n    range size 7 20", True),
                          ("shown open\n  range open - 9\n  follow place\n    range size 5 -", False),
                          ("shown open\n  range open 0 11\n  follow place\n    range size 5 -", False),
                          ("shown open\n  range open 0 10\n  follow place\n    range size 4 -", False),
                          ("shown open\n  range open 0 10", False)]:
            self.assertIs(self.decides([wide], *shop_views("view shop\n  " + text)), can, text)
        bare, = shop_views("view shop\n  range open 0 10")
        self.assertFalse(self.decides([bare], *shop_views("view shop\n  range open 0 9")))
        self.assertFalse(self.decides([bare], *shop_views("view shop\n  shown open\n  range open 0 10")))

    def test_both_sides_of_an_end(self):
        for end in (-999, -1, 0, 1, 7, 999):
            below, at, above = shop_views(*[f"view region\n  range size {low} -" for low in (end - 1, end, end + 1)])
            for kept in (below, at, above):
                for view in (below, at, above):
                    self.assertIs(self.decides([kept], view), kept == view)
            shown, = shop_views(f"view region\n  shown size\n  range size {end} -")
            self.assertEqual([self.decides([shown], view) for view in (below, at, above)], [False, True, True])
            upper, = shop_views(f"view region\n  shown size\n  range size - {end}")
            told = [f"view region\n  range size - {high}" for high in (end - 1, end, end + 1)]
            self.assertEqual([self.decides([upper], view) for view in shop_views(*told)], [True, True, False])

    def test_values_that_are_the_only_ones_left(self):
        # Between two ends, with what one view has and another one lacks.
        six, seven = shop_views("view region\n  range size 6 -", "view region\n  range size 7 -")
        shown, = shop_views("view region\n  shown size\n  range size 6 6")
        self.assertTrue(self.decides([six, seven], shown))
        self.assertFalse(self.decides([six], shown))
        self.assertFalse(self.decides([six, *shop_views("view region\n  range size 8 -")],
                                      *shop_views("view region\n  shown size\n  range size 6 7")))
        self.assertEqual(answered([six, seven], [{1: ((1,), ()), 2: ((2,), ())}, {2: ((2,), ())}], shown),
                         {1: ((1,), (6,))})
        alone, = shop_views("view region\n  range size 5 5")
        self.assertTrue(self.decides([alone], *shop_views("view region\n  shown size\n  range size 5 5")))
        # Below the least and above the greatest end there is more than one.
        for text in ("range size - -1000", "range size 1000 -"):
            self.assertFalse(self.decides(shop_views(f"view region\n  {text}"),
                                          *shop_views(f"view region\n  shown size\n  {text}")))

    def test_the_greatest_ends(self):
        low, high, bare = shop_views("view region\n  range size - -1000", "view region\n  range size 1000 -", "view region")
        inner, = shop_views("view region\n  range size -999 999")
        self.assertTrue(self.decides([bare, low, high], inner))
        self.assertFalse(self.decides([bare, low], inner))
        self.assertFalse(self.decides([low, high], inner))
        self.assertTrue(self.decides([bare, inner], *shop_views("view region\n  range size -999 999")))
        self.assertFalse(self.decides([bare, inner], high))

    def test_lacks_of_several_ranges(self):
        both, bare, opened = shop_views("view shop\n  range open 1 -\n  follow place\n    range size 5 -",
                                        "view shop\n  shown open\n  follow place", "view shop\n  range open 1 -")
        low, = shop_views("view shop\n  range open 1 -\n  follow place\n    range size - 4")
        # An open shop that is not among the large ones is a small one.
        self.assertTrue(self.decides([both, bare], low))
        self.assertTrue(self.decides([low, bare], both))
        self.assertFalse(self.decides([both, opened], low))
        self.assertFalse(self.decides([both, bare], *shop_views("view shop\n  follow place\n    range size - 4")))

    def test_joins(self):
        views = deep_views("view c\n  follow r\n  follow s", "view b\n  shown p\n  follow r", "view a\n  shown p")
        for text in ("view c\n  follow r\n    shown p\n    follow r\n      shown p", "view c\n  follow r\n    follow r\n  follow s",
                     "view c\n  follow r\n    range p 1 5\n    follow r\n      range p - 3\n  follow s\n    shown p",
                     "view b\n  range p 1 1\n  follow r\n    shown p"):
            view, = deep_views(text)
            self.assertTrue(self.decides(views, view), text)
            for index in {"view c": [0, 1], "view b": [1]}[text[:6]]:
                self.assertFalse(self.decides(views[:index] + views[index + 1:], view), (text, index))
        self.assertFalse(self.decides(views, *deep_views("view c\n  shown p")))

    def test_helpers(self):
        # A view of shops with their regions answers only with both tables at hand.
        view, = shop_views("view shop\n  shown open\n  follow place\n    shown size")
        opened, = shop_views("view shop\n  shown open")
        self.assertFalse(self.decides([PLACES, REGIONS], view))
        self.assertTrue(self.decides([PLACES, REGIONS, opened], view))
        self.assertFalse(self.decides([REGIONS, opened], view))

    def test_no_kept_views(self):
        for view in (BIG, REGIONS, PLACES, SMALL, *shop_views("view shop", "view region\n  range size 1 1")):
            self.assertFalse(self.decides([], view))
        never, = shop_views("view shop\n  follow place\n    range size 5 4")
        self.assertTrue(self.decides([], never))
        self.assertEqual(answered([], [], never), {})
        self.assertEqual(answered([], [], never, [("insert", "shop", (5, 1, 3))]), {})

    def test_views_that_never_have_rows(self):
        for kept in ([], [BIG], [PLACES, REGIONS]):
            for text in ("view region\n  shown size\n  range size 1 0", "view shop\n  range open 1000 -1000\n  follow place"):
                self.assertTrue(self.decides(kept, *shop_views(text)))
        never = shop_views("view region\n  range size 1 0")
        self.assertFalse(self.decides(never, REGIONS))

    def test_rows_that_only_others_lead_to(self):
        # Which regions there are is not told by those of shops.
        self.assertFalse(self.decides([PLACES], *shop_views("view region")))
        self.assertFalse(self.decides(shop_views("view shop\n  follow place\n    shown size"), REGIONS))
        self.assertFalse(self.decides([REGIONS], *shop_views("view shop")))


class BatchesTest(AnsweringCase):

    def test_behind_an_empty_batch(self):
        for changes in ([], ()):
            self.assertTrue(self.decides([PLACES, REGIONS], SMALL, changes))
        self.assertIs(can_answer([PLACES, REGIONS], SMALL), True)
        self.assertIsNone(gap([PLACES, REGIONS], SMALL))

    def test_rows_that_a_batch_tells(self):
        region, = shop_views("view region\n  range size 10 -")
        self.assertFalse(self.decides([], region, [("insert", "region", (3, 12))]))
        ids, = shop_views("view region")
        self.assertFalse(self.decides([region], REGIONS, [("insert", "region", (3, 12))]))
        self.assertTrue(self.decides([ids], ids, [("insert", "region", (3, 12))]))
        # The set tells the size of this region alone.
        change = ("set", "region", (3, 1), (3, 12))
        self.assertTrue(self.decides([region], region, [change]))
        self.assertFalse(self.decides([region], *shop_views("view region\n  range size 9 -"), [change]))
        self.assertEqual(answered([region], [{4: ((4,), ())}], region, [change]), {3: ((3,), ()), 4: ((4,), ())})

    def test_inserts_and_deletes(self):
        insert, delete = ("insert", "shop", (5, 1, 3)), ("delete", "shop", (6, 0, 4))
        view, = shop_views("view shop\n  follow place\n    range size 10 -")
        self.assertFalse(self.decides([view], view, [insert]))
        self.assertTrue(self.decides([view, REGIONS], view, [insert]))
        self.assertTrue(self.decides([view, REGIONS], view, [insert, delete]))
        self.assertEqual(answered([view, REGIONS], [{6: ((6, 4), ()), 7: ((7, 3), ())}, {3: ((3,), (12,)), 4: ((4,), (10,))}],
                                  view, [insert, delete]), {5: ((5, 3), ()), 7: ((7, 3), ())})
        # All shops, of which the kept views do not tell the regions of other ones.
        self.assertFalse(self.decides([REGIONS], PLACES, [insert, delete]))
        self.assertTrue(self.decides([PLACES], *shop_views("view shop"), [insert, delete]))

    def test_three_and_eight_changes(self):
        texts = ["view c\n  shown p\n  follow r\n  follow s", "view b\n  shown p\n  follow r", "view a\n  shown p"]
        copies = deep_views(*texts)
        asked = deep_views("view c\n  follow r\n    range p 1 -\n    follow r\n      shown p", "view b\n  follow r\n    range p 0 1")
        many = 0
        for seed in range(120):
            chance = random.Random(seed)
            base = any_base(chance, DEEP)
            changes = any_batch(chance, base, chance.choice([3, 8]))
            many += len(changes) == 8
            later = made(DEEP, tables_of(base), changes)
            kept = [contents(view, base) for view in copies]
            for view in asked:
                self.assertTrue(self.decides(copies, view, changes), seed)
                self.assertEqual(answered(copies, kept, view, changes), shown_by(view, later), seed)
        self.assertGreater(many, 20)

    def test_following_is_answering_a_kept_view(self):
        for seed in range(200):
            chance = random.Random(seed)
            base, views, _, changes = any_asked_case(chance)
            for index, view in enumerate(views):
                self.assertIs(self.decides(views, view, changes), can_follow(views, changes, index), seed)


class GapTest(AnsweringCase):

    def pair(self, *sizes):
        return tuple(Base(SHOPS, [("region", (3, size))]) for size in sizes)

    def test_all_gaps_are_taken(self):
        view, = shop_views("view region\n  range size 10 -")
        for sizes in [(10, 9), (9, 10), (-10 ** 6, 10 ** 6)]:
            self.assertIs(is_gap([PLACES], view, self.pair(*sizes)), True)
            self.assertIs(is_gap([PLACES], view, self.pair(*sizes), [("insert", "shop", (5, 1, 3))]), True)

    def test_what_is_no_gap(self):
        view, = shop_views("view region\n  range size 10 -")
        for sizes in [(1, 2), (10, 11), (10, 10)]:
            self.assertIs(is_gap([PLACES], view, self.pair(*sizes)), False)
        first, second = self.pair(10, 9)
        # Not alike, not allowed in one or both, or the same behind the batch.
        self.assertIs(is_gap([REGIONS], view, (first, second)), False)
        self.assertIs(is_gap([PLACES], view, (first, second), [("insert", "shop", (5, 1, 4))]), False)
        self.assertIs(is_gap([PLACES], view, (first, second), [("set", "region", (3, 9), (3, 8))]), False)
        self.assertIs(is_gap([PLACES], PLACES, (first, second)), False)
        self.assertIs(is_gap([PLACES], view, (first, Base(SHOPS, [("region", (3, 9)), ("shop", (5, 1, 3))]))), False)
        for value in [[first, second], (first,), (first, second, second), (first, None), (0, second), (first, first), first,
                      ((first, second),), {0: first, 1: second}, ()]:
            self.assertIs(is_gap([PLACES], view, value), False)

    def test_bases_of_another_schema(self):
        view, = shop_views("view region\n  range size 10 -")
        other = Schema.parse(str(SHOPS).replace("open", "opened"))
        spoilt = tuple(Base(other, [("region", (3, size))]) for size in (10, 9))
        self.assertIs(is_gap([PLACES], view, spoilt), False)
        self.assertIs(is_gap([PLACES], view, (self.pair(10)[0], spoilt[1])), False)
        same = Schema.parse(str(SHOPS))
        self.assertIs(is_gap([PLACES], view, tuple(Base(same, [("region", (3, size))]) for size in (10, 9))), True)

    def test_any_value(self):
        for value in ANY_VALUES + [(one, other) for one in ANY_VALUES[:12] for other in ANY_VALUES[-3:]]:
            self.assertIs(is_gap([PLACES], SMALL, value), False)
            self.assertIs(is_gap([], SMALL, value, []), False)

    def test_nothing_is_changed(self):
        views, changes = [PLACES], [("insert", "shop", (5, 1, 3))]
        pair = gap(views, REGIONS, changes)
        before = [tables_of(base) for base in pair]
        is_gap(views, REGIONS, pair, changes)
        can_answer(views, REGIONS, changes)
        self.assertEqual([views, changes, [tables_of(base) for base in pair]],
                         [[PLACES], [("insert", "shop", (5, 1, 3))], before])
        pair[0].make(changes)
        self.assertTrue(is_gap(views, REGIONS, gap(views, REGIONS, changes), changes))


class AnsweredTest(AnsweringCase):

    def test_ids_in_any_order(self):
        self.assertEqual(answered([PLACES, REGIONS], [{6: ((6, 4), ()), 5: ((5, 3), ())}, {4: ((4,), (2,)), 3: ((3,), (12,))}],
                                  SMALL), {6: ((6, 4), ())})

    def test_new_dicts(self):
        kept = [{key: row for key, row in rows.items()} for rows in KEPT]
        answered([PLACES, REGIONS], kept, PLACES).clear()
        answered([PLACES, REGIONS], kept, SMALL).clear()
        self.assertEqual(kept, KEPT)
        self.assertEqual(answered([PLACES, REGIONS], kept, PLACES), KEPT[0])

    def test_errors(self):
        for views, view, changes in [([PLACES], SMALL, ()), ([], REGIONS, []), ([BIG], BIG, [("insert", "shop", (5, 1, 3))])]:
            with self.assertRaises(NotAnswered) as caught:
                answered(views, [{} for _ in views], view, changes)
            self.assertIsInstance(caught.exception, AnswerError)

    def test_many_rows(self):
        base = Base(SHOPS, [("region", (key, key)) for key in range(40)]
                    + [("shop", (10 ** 6 - key, 0, key % 40)) for key in range(1500)])
        half, = shop_views("view region\n  range size 11 -")
        for views in ([PLACES, REGIONS], [PLACES, half], [half, PLACES]):
            self.assertEqual(answered(views, [contents(view, base) for view in views], SMALL), contents(SMALL, base))

    def test_beside_a_changing_base(self):
        told = {True: 0, False: 0}
        for seed in range(250):
            chance = random.Random(seed)
            base, views, view, changes = any_asked_case(chance)
            for _ in range(3):
                kept = [dict(sorted(contents(each, base).items(), key=lambda pair: chance.random())) for each in views]
                can = self.decides(views, view, changes)
                told[can] += 1
                if can:
                    later = made(base.schema, tables_of(base), changes)
                    self.assertEqual(answered(views, kept, view, changes), shown_by(view, later), seed)
                base.make(changes)
                changes = any_batch(chance, base, chance.choice([0, 1, 2, 8]))
        self.assertGreater(min(told.values()), 150)


class AllBasesTest(AnsweringCase):

    def test_all_bases_of_small_schemas(self):
        texts = ["table a\n  plain p\ntable b\n  ref r a", "table a\n  plain p\ntable b\n  ref r a\n  ref s a",
                 "table a\n  plain p\ntable b\n  plain p\n  ref r a", "table a\n  plain p\n  plain q",
                 "table a\n  plain p\ntable b\n  ref r a\ntable c\n  ref r b"]
        told = {True: 0, False: 0}
        for text in texts:
            schema = Schema.parse(text)
            is_small = text.count("plain p\n  ref") or text.count("table") == 3
            states = list(all_tables(schema, (0, 1), (0, 1) if is_small else (0, 1, 2)))
            for seed in range(60):
                chance = random.Random(seed)
                views = [any_view(chance, schema, 0, 2) for _ in range(chance.choice([0, 1, 2, 3]))]
                view = any_view(chance, schema, 0, 2)
                changes = any_batch(chance, any_base(chance, schema, 2, (0, 1, 2)), chance.choice([0, 0, 1, 2]), 1, (0, 1, 2))
                told[self.agrees(schema, views, view, changes, states)] += 1
        self.assertGreater(min(told.values()), 50)

    def agrees(self, schema, views, view, changes, states):
        """See that no two of some tables contradict what can be answered; return it."""
        can = self.decides(views, view, changes)
        found = {}
        for tables in states if can else []:
            later = made(schema, tables, changes)
            if not isinstance(later, int):
                key = repr([sorted(shown_by(kept, tables).items()) for kept in views])
                behind = shown_by(view, later)
                self.assertEqual(found.setdefault(key, behind), behind, (list(map(str, views)), str(view), changes))
        return can


class BoundsTest(AnsweringCase):

    def test_the_largest_questions(self):
        texts = ["table a\n  plain p\n  plain q\ntable b\n  plain p\n  plain q\n  ref r a\n  ref s a\ntable c\n  plain p\n"
                 "  plain q\n  ref r b", "table a\n  plain p\n  plain q\ntable b\n  plain p\n  plain q\n  ref r a\ntable c\n"
                 "  plain p\n  plain q\n  ref r b\n  ref s b"]
        told = []
        for seed in range(120):
            chance = random.Random(seed)
            schema = Schema.parse(chance.choice(texts))
            views = [any_view(chance, schema, -8, 8) for _ in range(3)]
            view = any_view(chance, schema, -8, 8)
            if max([len(found) for found in ends(views + [view]).values()], default=0) > 8:
                continue
            base = any_base(chance, schema, 12, range(-12, 13))
            told.append(self.decides(views, view, any_batch(chance, base, 8, 12, range(-12, 13))))
            told.append(self.decides([*views[:2], view], view, any_batch(chance, base, 8, 12, range(-12, 13))))
        self.assertTrue(10 < sum(told) < len(told) - 10)


if __name__ == "__main__":
    unittest.main()
