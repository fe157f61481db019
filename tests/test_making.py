"""Points 12, 16, 18 and 20: made rules."""

import copy
import itertools
import random
import unittest

from makers import BIG, PLACES, REGIONS, SHOPS, any_base, any_batch, any_view
from onlyviews.answering import answered, can_answer
from onlyviews.bases import Base
from onlyviews.deciding import can_follow
from onlyviews.following import followed
from onlyviews.judging import is_right
from onlyviews.making import make_rule, unlike_pairs
from onlyviews.reasons import are_reasons, reasons
from onlyviews.rules import is_rule, parse_rule, rule_text, told_contents
from onlyviews.schemas import Schema
from onlyviews.views import View, contents
from oracle import all_tables, made, shown_by, tables_of
from proofs import are_reasons_by_words
from rulemakers import any_rule_case, is_wrong_at, trees_of

SMALL = View.parse(SHOPS, "view shop\n  follow place\n    range size - 10")
WIDE = [Schema.parse(text) for text in (
    "table a\n  plain p\n  plain q\ntable b\n  plain p\n  plain q\n  ref r a\n  ref s a\ntable c\n  plain p\n  plain q\n  ref r b",
    "table a\n  plain p\n  plain q\ntable b\n  plain p\n  plain q\n  ref r a\ntable c\n  plain p\n  plain q\n  ref r b\n  ref s b",
    "table a\n  plain p\n  plain q\ntable b\n  plain p\n  plain q\n  ref r a\ntable c\n  plain p\n  plain q\n  ref r b\n  ref s a")]


def shop_views(*texts):
    return [View.parse(SHOPS, text) for text in texts]


def depth_of(rule):
    """Return how many questions of a rule stand behind one another."""
    return max((len(row) - len(row.lstrip())) // 2 for row in rule_text(rule).split("\n"))


class MakingCase(unittest.TestCase):

    def makes(self, views, changes, view):
        """Return the rule that is made, having seen that it is right, and there exactly if views answer the view."""
        given = copy.deepcopy(changes)
        rule = make_rule(views, changes, view)
        self.assertEqual(changes, given)
        self.assertIs(rule is not None, can_answer(views, view, changes), (list(map(str, views)), str(view), changes))
        if rule is not None:
            self.assertIs(is_rule(views, changes, view, rule), True)
            self.assertIs(is_right(views, changes, view, rule), True)
            self.assertLessEqual(depth_of(rule), 100)
            self.assertEqual(parse_rule(rule_text(rule)), rule)
        return rule


class ExamplesTest(MakingCase):

    def test_of_the_interface(self):
        rule = make_rule([PLACES, REGIONS], [], SMALL)
        self.assertEqual([is_right([PLACES, REGIONS], [], SMALL, rule), make_rule([PLACES], [], SMALL)], [True, None])
        self.assertEqual(make_rule(view=SMALL, changes=(), views=[PLACES, REGIONS]), rule)

    def test_batches(self):
        insert, delete = ("insert", "shop", (5, 1, 3)), ("delete", "shop", (6, 0, 4))
        raised = ("set", "region", (3, 1), (3, 12))
        for changes in ([], [insert], [delete], [insert, delete], [delete, insert], [raised], [raised, insert],
                        [("insert", "region", (7, 1)), ("insert", "shop", (9, 0, 7))], [insert, ("delete", "shop", (5, 1, 3))]):
            for views in ([BIG], [BIG, REGIONS], [BIG, PLACES], [BIG, REGIONS, PLACES], [REGIONS, PLACES], [PLACES]):
                for view in (BIG, SMALL, PLACES, REGIONS):
                    self.makes(views, changes, view)

    def test_no_kept_views(self):
        never, = shop_views("view shop\n  range open 2 1\n  follow place")
        for changes in ([], [("insert", "shop", (5, 1, 3))], [("delete", "shop", (5, 1, 3)), ("delete", "region", (3, 0))]):
            self.assertEqual(self.makes([], changes, never), ("none",))
            self.assertIsNone(self.makes([], changes, PLACES))

    def test_views_that_never_have_rows(self):
        never, = shop_views("view region\n  shown size\n  range size 2 1")
        for views in ([], [BIG], [never], [never, REGIONS]):
            self.assertEqual(self.makes(views, [("insert", "region", (3, 1))], never), ("none",))
        self.assertIsNone(self.makes([never], [], REGIONS))

    def test_values_that_are_the_only_ones_left(self):
        six, seven, shown, bare = shop_views("view region\n  range size 6 -", "view region\n  range size 7 -",
                                             "view region\n  shown size\n  range size 6 6", "view region")
        rule = self.makes([six, seven], [], shown)
        self.assertEqual(told_contents([six, seven], [{1: ((1,), ()), 2: ((2,), ())}, {2: ((2,), ())}], [], shown, rule),
                         {1: ((1,), (6,))})
        self.makes([bare, six], [], *shop_views("view region\n  range size - 5"))
        self.makes([bare, *shop_views("view region\n  range size - 5")], [], six)

    def test_the_greatest_ends(self):
        bare, low, high, inner = shop_views("view region", "view region\n  range size - -1000", "view region\n  range size 1000 -",
                                            "view region\n  range size -999 999")
        self.assertIsNotNone(self.makes([bare, low, high], [], inner))
        for text in ("range size 1000 -", "range size - -1000", "range size -1000 1000", "range size 1000 1000"):
            view, = shop_views("view shop\n  follow place\n    " + text)
            self.assertIsNotNone(self.makes([PLACES, REGIONS], [], view))

    def test_what_was_handed_in_may_be_changed(self):
        views, changes = [PLACES, REGIONS], [("insert", "shop", (5, 1, 3))]
        rule = make_rule(views, changes, SMALL)
        text = rule_text(rule)
        views.clear()
        changes.clear()
        self.assertEqual(rule_text(rule), text)


class DrawnTest(MakingCase):

    def test_rows_in_drawn_bases(self):
        told = {True: 0, False: 0}
        for seed in range(700):
            chance = random.Random(seed)
            base, views, view, changes = any_rule_case(chance)
            rule = self.makes(views, changes, view)
            told[rule is not None] += 1
            if rule is not None:
                tables, kept = tables_of(base), [contents(each, base) for each in views]
                self.assertEqual(told_contents(views, kept, changes, view, rule), shown_by(view, made(base.schema, tables, changes)))
                self.assertEqual(told_contents(views, kept, changes, view, rule), answered(views, kept, view, changes))
                for key in range(5):
                    self.assertFalse(is_wrong_at(views, changes, view, rule, tables, key), seed)
        self.assertGreater(min(told.values()), 200)

    def test_following(self):
        # For kept views, rules are there exactly where the batch can be followed, and tell the same.
        told = {True: 0, False: 0}
        for seed in range(500):
            chance = random.Random(seed)
            base, views, _, changes = any_rule_case(chance)
            kept = [contents(each, base) for each in views]
            rules = [self.makes(views, changes, view) if sum(len(each.ranges) for each in [*views, view]) <= 6 else None
                     for view in views]
            for index, (view, rule) in enumerate(zip(views, rules)):
                if sum(len(each.ranges) for each in [*views, view]) <= 6:
                    told[rule is not None] += 1
                    self.assertIs(rule is not None, can_follow(views, changes, index))
            if views and None not in rules:
                self.assertEqual([told_contents(views, kept, changes, view, rule) for view, rule in zip(views, rules)],
                                 followed(views, kept, changes))
        self.assertGreater(min(told.values()), 30)

    def test_all_bases_of_small_schemas(self):
        texts = ["table a\n  plain p\ntable b\n  ref r a", "table a\n  plain p\ntable b\n  plain p\n  ref r a",
                 "table a\n  plain p\n  plain q", "table a\n  plain p\ntable b\n  ref r a\ntable c\n  ref r b"]
        many = 0
        for text in texts:
            schema = Schema.parse(text)
            is_small = "plain p\n  ref" in text or "plain q" in text or "table c" in text
            states = list(all_tables(schema, (0, 1), (0, 1) if is_small else (0, 1, 2)))
            for seed in range(40):
                chance = random.Random(seed)
                views = [any_view(chance, schema, 0, 2) for _ in range(chance.choice([0, 1, 2, 3]))]
                view = chance.choice([*views, any_view(chance, schema, 0, 2)])
                if sum(len(each.ranges) for each in [*views, view]) > 6:
                    continue
                changes = any_batch(chance, any_base(chance, schema, 2, (0, 1, 2)), chance.choice([0, 1, 2]), 1, (0, 1, 2))
                rule = self.makes(views, changes, view)
                for tables in states if rule is not None else []:
                    if not isinstance(made(schema, tables, changes), int):
                        many += 1
                        for key in range(3):
                            self.assertFalse(is_wrong_at(views, changes, view, rule, tables, key), (rule, tables, key))
        self.assertGreater(many, 1000)

    def test_wide_schemas(self):
        values = range(-4, 5)
        questions = []
        for seed in range(500):
            chance = random.Random(seed)
            base, views, view, changes = any_rule_case(chance, 3, WIDE, 6, values)
            # A view of which a kept one tells more is often answered.
            more = str(view).split("\n")
            kept = [row for row in more if "range" not in row or chance.random() < 0.5]
            views = [View.parse(base.schema, "\n".join(kept)), *views[:2]]
            views += [View.parse(base.schema, f"view {table}\n  shown p\n  shown q") for table in base.schema.tables][:3 - len(views)]
            if sum(len(each.ranges) for each in [*views, view]) > 6:
                continue
            rule = self.makes(views, changes, view)
            if rule is not None:
                questions.append(len(trees_of(rule)) // 2)
                told = reasons(views, changes, view, rule)
                self.assertIs(are_reasons(views, changes, view, rule, told), True)
        self.assertGreater(max(questions), 8)
        self.assertGreater(len(questions), 100)

    def test_ends_of_kept_views(self):
        # Of shops in neither of two views, those of at least 5 have q below 3, and others not; no end of the view tells it.
        schema = Schema.parse("table a\n  plain p\n  plain q")
        views = [View.parse(schema, f"view a\n  {rows}") for rows in (
            "range p 5 -\n  range q 3 -", "range p - 4\n  range q - 2", "shown p")]
        view = View.parse(schema, "view a\n  range q 3 -")
        rule = self.makes(views, [], view)
        base = Base(schema, [("a", (10 * p + q, p, q)) for p in range(3, 8) for q in range(1, 6)])
        self.assertEqual(told_contents(views, [contents(each, base) for each in views], [], view, rule), contents(view, base))
        self.assertIsNone(self.makes(views[:2], [], view))

    def test_pairs_of_samples(self):
        fits = [("a", (), [True, False, True]), ("b", (), [False, True, False])]
        self.assertEqual(unlike_pairs([fits], 3), [(0, 1), (2, 1)])
        self.assertEqual(unlike_pairs([fits + [("c", (), [True] * 3)]], 3), [])
        # Where nothing fits, all samples may be unlike one another.
        for none in ([], [("a", (), [False] * 3)]):
            self.assertEqual(sorted(unlike_pairs([none], 3)), [(0, 1), (0, 2), (1, 2)])

    def test_rules_stay_small(self):
        # For rows that the batch changes, and those that lead to them, a rule asks which they are ahead of all else.
        schema = WIDE[1]
        kept = [View.parse(schema, text) for text in (
            "view c\n  shown p\n  shown q\n  follow r\n  follow s", "view b\n  shown p\n  shown q\n  follow r",
            "view a\n  shown p\n  shown q")]
        views = [View.parse(schema, "view c\n  shown p\n" + text) for text in (
            "  range p 0 10\n  follow r\n    shown p\n    range q 5 20\n    follow r\n      shown p\n      range p 1 8\n"
            "  follow s\n    shown q\n    range p 3 9",
            "  follow r\n    shown p\n    follow r\n      shown p\n      range p 1 8\n      range q 1 8\n  follow s\n"
            "    shown q\n    range p 3 9\n    range q 2 7")]
        first, second = ("set", "b", (1, 4, 4, 1), (1, 5, 6, 2)), ("set", "b", (2, 4, 4, 1), (2, 5, 9, 3))
        for changes in ([first, second], [("set", "a", (1, 4, 4), (1, 5, 6)), ("set", "a", (2, 4, 4), (2, 5, 9))],
                        [("set", "a", (1, 4, 4), (1, 5, 6)), second], [("set", "c", (1, 4, 4, 1, 2), (1, 5, 6, 2, 3)), second],
                        [("insert", "c", (1, 5, 6, 2, 3)), ("set", "c", (2, 4, 4, 1, 2), (2, 5, 6, 2, 3))]):
            for view in views:
                rule = self.makes(kept, changes, view)
                self.assertLess(len(trees_of(rule)) // 2, 200)
                self.assertIs(are_reasons(kept, changes, view, rule, reasons(kept, changes, view, rule)), True)

    def test_rows_with_several_names(self):
        # A view names a row first, and one that is asked later names it, too: what it shows has the name that was asked.
        views = [View.parse(WIDE[1], text) for text in (
            "view c\n  shown p\n  follow r\n    shown q\n    follow r",
            "view c\n  shown q\n  follow r\n    follow r\n      shown p\n      shown q", "view b\n  shown p")]
        view = View.parse(WIDE[1], "view c\n  shown p\n  range q - -1\n  follow r\n    shown p\n    range p -1 -\n    follow r")
        self.assertIsNotNone(self.makes(views, [], view))
        views = [View.parse(WIDE[2], text) for text in (
            "view c\n  shown p\n  range p 1 -\n  range q 0 -\n  follow r\n    range q -1 1",
            "view c\n  shown p\n  follow r\n    range p -1 -\n    follow r\n      shown q",
            "view b\n  shown p\n  shown q\n  follow r\n    shown q")]
        view = View.parse(WIDE[2], "view c\n  follow r\n    shown p\n    shown q\n    range p -1 -")
        changes = [("set", "a", (1, 3, -1), (1, 3, -1)), ("set", "b", (0, 1, -1, 2), (0, 2, -1, 2))]
        for kept in itertools.permutations(views):
            self.assertIsNotNone(self.makes(list(kept), changes, view))

    def test_words_of_rules_as_names(self):
        schemas = [Schema.parse("table row\n  plain in\n  plain t\ntable none\n  plain t\n  ref below row\ntable t\n  plain is\n"
                                "  ref same none\n  ref t row"), Schema.parse("table never\n  plain t\ntable t\n  plain t\n  ref row never")]
        many = 0
        for seed in range(150):
            chance = random.Random(seed)
            base, views, view, changes = any_rule_case(chance, 3, schemas)
            rule = self.makes(views, changes, view)
            if rule is not None:
                many += 1
                told = told_contents(views, [contents(each, base) for each in views], changes, view, rule)
                self.assertEqual(told, shown_by(view, made(base.schema, tables_of(base), changes)))
                shown = reasons(views, changes, view, rule)
                self.assertIs(are_reasons(views, changes, view, rule, shown), True)
                self.assertIs(are_reasons_by_words(views, changes, view, rule, shown), True)
        self.assertGreater(many, 40)

    def test_equal_samples_by_chance(self):
        # Here parts of leaves fit samples by chance, but not all of them.
        schema = Schema.parse("table a\n  plain p\n  plain q\ntable b\n  plain p\n  plain q\n  ref r a\n  ref s a")
        texts = ["view b\n  shown p\n  shown q\n  follow r\n    shown p\n    shown q\n    range p - 2\n    range q - 2",
                 "view b\n  shown p\n  shown q\n  follow r\n    shown p\n    shown q\n    range q - 2",
                 "view b\n  shown p\n  shown q\n  range p - 3\n  follow r\n    shown p\n    shown q"]
        views = [View.parse(schema, text) for text in texts]
        changes = [("set", "a", (2, -1, -3), (2, -1, 1)), ("delete", "b", (2, 0, -4, 0, 0))]
        self.assertIsNotNone(self.makes(views, changes, views[1]))


class SharedTest(MakingCase):

    def test_told_ids_in_several_tables(self):
        schema = Schema.parse("table a\n  plain p\ntable b\n  plain p\n  ref r a\ntable c\n  plain p\n  ref r b\n  ref s b")
        texts = ["view c\n  shown p\n  follow r\n  follow s", "view b\n  shown p\n  follow r", "view a\n  shown p"]
        views = [View.parse(schema, text) for text in texts]
        view = View.parse(schema, "view c\n  shown p\n  follow r\n    shown p\n    follow r\n      range p 1 -\n  follow s\n    range p - 5")
        base = Base(schema, [("a", (1, 0)), ("a", (2, 3)), ("b", (1, 4, 1)), ("b", (2, 6, 2)), ("c", (1, 7, 1, 2)), ("c", (2, 8, 2, 1))])
        for changes in [
                [("set", "b", (1, 4, 1), (1, 4, 2)), ("set", "b", (2, 6, 2), (2, 5, 1))], [("set", "a", (1, 0), (1, 1))],
                [("set", "a", (1, 0), (1, 1)), ("set", "b", (2, 6, 2), (2, 5, 1))], [("set", "c", (1, 7, 1, 2), (1, 7, 2, 1))],
                [("insert", "b", (3, 1, 2)), ("insert", "c", (3, 1, 3, 3))], [("delete", "c", (1, 7, 1, 2)), ("delete", "c", (2, 8, 2, 1))],
                [("set", "b", (1, 4, 1), (1, 4, 2)), ("delete", "a", (1, 0))]]:
            rule = self.makes(views, changes, view)
            self.assertIsNotNone(rule)
            told = told_contents(views, [contents(each, base) for each in views], changes, view, rule)
            self.assertEqual(told, shown_by(view, made(schema, tables_of(base), changes)))


if __name__ == "__main__":
    unittest.main()
