"""Points 18 and 20: whether a rule is right, and a base and an id for which it is not."""

import random
import unittest

from makers import BIG, PLACES, REGIONS, SHOPS, any_base, any_batch, any_view
from onlyviews.judging import is_right, wrong_spot
from onlyviews.making import make_rule
from onlyviews.reasons import are_reasons, reasons
from onlyviews.rules import is_rule, parse_rule
from onlyviews.schemas import Schema
from onlyviews.views import View
from oracle import all_tables, made, tables_of
from rulemakers import Names, any_rule_case, any_tree, is_wrong_at, shows_wrong, spoilt, trees_of, with_tree

SMALL = View.parse(SHOPS, "view shop\n  follow place\n    range size - 10")
TEXT = ("in 0 t\n  in 1 t/0.1\n    below t/0.1/1=0 11\n      row t t/0.1 |\n    else\n      none\n  else\n    never\n"
        "else\n  none")
NONE, NEVER = ("none",), ("never",)


def shop_views(*texts):
    return [View.parse(SHOPS, text) for text in texts]


class JudgingCase(unittest.TestCase):

    def judges(self, views, changes, view, rule):
        """Return whether a rule is right, having seen that all functions agree."""
        rule = parse_rule(rule) if isinstance(rule, str) else rule
        self.assertTrue(is_rule(views, changes, view, rule), rule)
        told = is_right(views, changes, view, rule)
        spot = wrong_spot(views, changes, view, rule)
        self.assertIs(told, spot is None)
        if spot is not None:
            self.assertTrue(shows_wrong(views, changes, view, rule, spot), (list(map(str, views)), str(view), changes, rule))
        shown = reasons(views, changes, view, rule)
        self.assertIs(told, shown is not None)
        self.assertIs(are_reasons(views, changes, view, rule, shown), told)
        return told

    def judges_all(self, views, changes, view, rights, wrongs):
        for rule in rights:
            self.assertTrue(self.judges(views, changes, view, rule), rule)
        for rule in wrongs:
            self.assertFalse(self.judges(views, changes, view, rule), rule)


class ExamplesTest(JudgingCase):

    def test_of_the_interface(self):
        rule = parse_rule(TEXT)
        self.assertEqual([is_right([PLACES, REGIONS], [], SMALL, rule), is_right([PLACES, REGIONS], [], SMALL, NONE)], [True, False])
        self.assertIs(is_right(rule=rule, view=SMALL, changes=(), views=[PLACES, REGIONS]), True)
        self.assertIsNone(wrong_spot(rule=rule, view=SMALL, changes=(), views=[PLACES, REGIONS]))

    def test_one_thing_spoilt(self):
        changed = [("11", "10"), ("11", "12"), ("row t t/0.1 |\n    else\n      none", "none\n    else\n      row t t/0.1 |"),
                   ("    never", "    none"), ("else\n  none", "else\n  never"), ("      none", "      never"),
                   ("      row t t/0.1 |", "      never"), ("      row t t/0.1 |", "      none"), ("      none", "      row t t/0.1 |")]
        told = [self.judges([PLACES, REGIONS], [], SMALL, TEXT.replace(old, new)) for old, new in changed]
        # Where no base leads any leaf is right.
        self.assertEqual(told, [False, False, False, True, False, False, False, False, False])

    def test_leaves_where_no_base_leads(self):
        for leaf in ("none", "never", "row t t/0.1 |"):
            self.assertTrue(self.judges([PLACES, REGIONS], [], SMALL, TEXT.replace("    never", "    " + leaf)))
        view, = shop_views("view shop\n  range open 2 1")
        for leaf in (NONE, NEVER, ("row", ("t",), ())):
            self.assertTrue(self.judges([view], [], view, ("in", 0, "t", leaf, NONE)))
            self.assertIs(self.judges([view], [], view, ("in", 0, "t", NONE, leaf)), leaf == NONE)


class IdsTest(JudgingCase):

    CHANGES = [("insert", "shop", (5, 1, 3)), ("delete", "shop", (6, 0, 4))]

    def test_named_ids(self):
        right = "is 5\n  row t region:3 |\nelse\n  is 6\n    none\n  else\n    in 0 t\n      row t t/0.1 |\n    else\n      none"
        self.assertTrue(self.judges([PLACES], self.CHANGES, PLACES, right))
        for old, new in [("is 5", "is 6"), ("is 6", "is 5"), ("region:3", "region:4"), ("    none\n  else", "    never\n  else"),
                         ("row t region:3 |", "none"), ("row t region:3 |", "never"),
                         ("    none\n  else", "    row t region:4 |\n  else"), ("row t t/0.1 |", "row t region:3 |"),
                         ("row t t/0.1 |", "row t region:4 |")]:
            self.assertFalse(self.judges([PLACES], self.CHANGES, PLACES, right.replace(old, new, 1)), (old, new))

    def test_rows_that_changes_tell_ahead(self):
        # Ahead of the batch there is no shop 5, and shop 6 leads to region 4.
        for text, right in [("is 5\n  in 0 t\n    never\n  else\n    row t region:3 |\nelse\n  {}", True),
                            ("is 5\n  in 0 t\n    row t region:3 |\n  else\n    never\nelse\n  {}", False)]:
            rest = "is 6\n    in 0 t\n      none\n    else\n      never\n  else\n    in 0 t\n      row t t/0.1 |\n    else\n      none"
            self.assertIs(self.judges([PLACES], self.CHANGES, PLACES, text.format(rest)), right)
        rule = "in 0 shop:6\n  same shop:6/0.1 4\n    {}\n  else\n    {}\nelse\n  {}"
        changes = self.CHANGES + [("set", "region", (4, 1), (4, 2))]
        never, = shop_views("view region\n  range size 2 1")
        self.judges_all([PLACES], changes, never, [rule.format("none", "never", "never"), rule.format("none", "none", "none")],
                        [rule.format("never", "none", "none")])

    def test_ids_that_no_row_has(self):
        # For each other id, whether there is a row or not.
        ids, never = shop_views("view shop", "view shop\n  range open 2 1")
        self.judges_all([], [], ids, [], [("row", ("t",), ()), NONE])
        self.judges_all([PLACES], [], ids, [("in", 0, "t", ("row", ("t",), ()), NONE)], [("row", ("t",), ()), NONE])
        self.judges_all([], [], never, [NONE], [NEVER, ("row", ("t",), ())])

    def test_rows_at_nodes(self):
        changes = [("set", "region", (3, 1), (3, 12)), ("set", "region", (4, 12), (4, 1))]
        bare, = shop_views("view shop\n  follow place")
        kept = [bare, REGIONS]
        view = BIG
        right = ("in 0 t\n  same t/0.1 3\n    row t region:3 | 12\n  else\n    same t/0.1 4\n      none\n    else\n      in 1 t/0.1\n"
                 "        below t/0.1/1=0 10\n          none\n        else\n          row t t/0.1 | t/0.1/1=0\n      else\n"
                 "        never\nelse\n  none")
        self.assertTrue(self.judges(kept, changes, view, right))
        self.assertTrue(self.judges(kept, changes, view, right.replace("row t region:3 |", "row t t/0.1 |")))
        for old, new in [("12\n", "11\n"), ("12\n", "13\n"), ("12\n", "1\n"), ("same t/0.1 4", "same t/0.1 3"), ("3 | 12", "4 | 12"),
                         ("0 10", "0 9"), ("0 10", "0 11"), ("t/0.1/1=0\n      else", "12\n      else"),
                         ("row t t/0.1 |", "row t region:3 |"), ("      none\n    else", "      never\n    else")]:
            self.assertIn(old, right)
            self.assertFalse(self.judges(kept, changes, view, right.replace(old, new, 1)), (old, new))
        # The shown size of region 3 is that ahead of the batch.
        ahead = right.replace("    row t region:3 | 12", "    in 1 t/0.1\n      row t t/0.1 | t/0.1/1=0\n    else\n      never")
        self.assertFalse(self.judges(kept, changes, view, ahead))

    def test_rows_that_no_other_may_lead_to(self):
        # Another shop leads to no region that the batch inserts or deletes.
        changes = [("insert", "region", (3, 1)), ("delete", "region", (4, 1))]
        for key in (3, 4):
            for leaf in ("never", "none", "row t region:3 |"):
                text = f"in 0 t\n  same t/0.1 {key}\n    {leaf}\n  else\n    row t t/0.1 |\nelse\n  none"
                self.assertTrue(self.judges([PLACES], changes, PLACES, text))
        changes = [("set", "region", (3, 1), (3, 2)), ("delete", "shop", (5, 0, 4))]
        self.assertFalse(self.judges([PLACES], changes, PLACES,
                                     "in 0 t\n  same t/0.1 3\n    never\n  else\n    row t t/0.1 |\nelse\n  none"))


class ValuesTest(JudgingCase):

    def test_integers_that_are_the_only_ones_left(self):
        six, seven, shown = shop_views("view region\n  range size 6 -", "view region\n  range size 7 -",
                                       "view region\n  shown size\n  range size 6 6")
        text = "in 0 t\n  in 1 t\n    none\n  else\n    row t | {}\nelse\n  none"
        for value, right in [(6, True), (5, False), (7, False), (0, False), (-6, False), (10 ** 6, False), (-10 ** 6, False)]:
            self.assertIs(self.judges([six, seven], [], shown, text.format(value)), right)
        self.assertFalse(self.judges([six, seven], [], shown, "in 0 t\n  row t | 6\nelse\n  none"))

    def test_integers_far_away(self):
        shown, low, high = shop_views("view region\n  shown size", "view region\n  range size - -1000", "view region\n  range size 1000 -")
        for value in (10 ** 6, -10 ** 6, 10 ** 6 - 1, 1 - 10 ** 6, 0, 1000, -1000, 1001, -1001):
            for kept in (low, high, shown):
                view, = shop_views("view region\n  shown size" + str(kept).replace("  shown size", "")[11:].rstrip())
                self.judges_all([shown, kept], [], view, ["in 1 t\n  in 0 t\n    row t | t/0=0\n  else\n    never\nelse\n  none"],
                                [f"in 1 t\n  row t | {value}\nelse\n  none"])

    def test_values_that_changes_tell(self):
        for value in (10 ** 6, -10 ** 6, 0, 1000):
            changes = [("set", "region", (3, 5), (3, value))]
            text = "is 3\n  row t | {}\nelse\n  in 0 t\n    row t | t/0=0\n  else\n    none"
            self.assertTrue(self.judges([REGIONS], changes, REGIONS, text.format(value)))
            for other in (value - 1, value + 1, 5):
                if abs(other) <= 10 ** 6:
                    self.assertFalse(self.judges([REGIONS], changes, REGIONS, text.format(other)))
        changes = [("insert", "region", (3, 7)), ("set", "region", (4, 7), (4, 7))]
        self.judges_all([REGIONS], changes, REGIONS, [
            f"is {key}\n  row t | 7\nelse\n  is {other}\n    row t | 7\n  else\n    in 0 t\n      row t | t/0=0\n    else\n      none"
            for key, other in [(3, 4), (4, 3)]] + [
            "is 3\n  row t | 7\nelse\n  in 0 t\n    row t | t/0=0\n  else\n    none"], [
            "is 4\n  row t | 7\nelse\n  in 0 t\n    row t | t/0=0\n  else\n    none"])

    def test_names_of_values(self):
        view, = shop_views("view shop\n  shown open\n  follow place\n    shown size")
        text = "in 0 t\n  row t t/0.1 | {}\nelse\n  none"
        self.judges_all([view], [], view, [text.format("t/0=0 t/0=1")], [
            text.format(values) for values in ("t/0=1 t/0=0", "t/0=0 t/0=0", "t/0=1 t/0=1", "t/0=0 5", "0 t/0=1")])
        # Two names of one value.
        opened, = shop_views("view shop\n  shown open")
        both = "in 0 t\n  in 1 t\n    row t t/0.1 | {}\n  else\n    never\nelse\n  none"
        self.judges_all([view, opened], [], view, [both.format("t/1=0 t/0=1"), both.format("t/0=0 t/0=1")],
                        [both.format("t/0=1 t/1=0")])

    def test_equal_values_of_other_columns(self):
        # Two values are one where just one integer is left for both.
        shown, = shop_views("view shop\n  shown open\n  range open 5 5\n  follow place\n    shown size\n    range size 5 5")
        text = "in 0 t\n  row t t/0.1 | {}\nelse\n  none"
        self.judges_all([shown], [], shown, [text.format(values) for values in ("t/0=1 t/0=0", "5 t/0=0", "t/0=0 5", "5 5")],
                        [text.format(values) for values in ("5 6", "4 t/0=0")])

    def test_ends(self):
        for end in (-1000, -999, 0, 1, 999, 1000):
            low, high = shop_views(f"view region\n  range size {end} -", f"view region\n  range size - {end}")
            for at in (end - 1, end, end + 1, end + 2):
                if -1000 <= at <= 1001:
                    text = "in 0 t\n  below t/0=0 {}\n    {}\n  else\n    {}\nelse\n  none".format
                    self.assertIs(self.judges([REGIONS], [], low, text(at, "none", "row t |")), at == end)
                    self.assertIs(self.judges([REGIONS], [], high, text(at, "row t |", "none")), at == end + 1)


class NoViewsTest(JudgingCase):

    def test_no_kept_views(self):
        changes = [("insert", "region", (3, 12))]
        view, = shop_views("view region\n  range size 5 4")
        self.judges_all([], changes, view, [NONE, ("is", 3, NONE, NONE)], [NEVER, ("is", 3, NEVER, NONE), ("is", 3, NONE, NEVER),
                                                                            ("is", 3, ("row", ("t",), ()), NONE)])
        self.judges_all([], changes, REGIONS, [], [NONE, NEVER, ("is", 3, ("row", ("t",), (12,)), NONE)])


class DrawnTest(JudgingCase):

    def test_spoilt_rules(self):
        told = {True: 0, False: 0}
        for seed in range(1200):
            chance = random.Random(seed)
            base, views, view, changes = any_rule_case(chance)
            rule = make_rule(views, changes, view)
            for _ in range(4 if rule is not None else 0):
                other = spoilt(chance, views, changes, view, rule)
                if other is not None:
                    told[self.judges(views, changes, view, other)] += 1
            keys = range(5)
            if rule is not None and self.judges(views, changes, view, rule):
                for key in keys:
                    self.assertFalse(is_wrong_at(views, changes, view, rule, tables_of(base), key))
        self.assertGreater(told[True], 20)
        self.assertGreater(told[False], 400)

    def test_drawn_rules(self):
        told = {True: 0, False: 0}
        for seed in range(400):
            chance = random.Random(seed)
            _, views, view, changes = any_rule_case(chance)
            rule = any_tree(chance, Names(views, changes, view), [8])
            told[self.judges(views, changes, view, rule)] += 1
        self.assertGreater(told[True], 20)

    def test_all_bases_of_small_schemas(self):
        texts = ["table a\n  plain p\ntable b\n  ref r a", "table a\n  plain p\ntable b\n  plain p\n  ref r a",
                 "table a\n  plain p\n  plain q", "table a\n  plain p\ntable b\n  ref r a\n  ref s a"]
        told = {True: 0, False: 0}
        for text in texts:
            schema = Schema.parse(text)
            states = list(all_tables(schema, (0, 1), (0, 1) if "plain p\n  ref" in text or "plain q" in text else (0, 1, 2)))
            for seed in range(60):
                chance = random.Random(seed)
                views = [any_view(chance, schema, 0, 2) for _ in range(chance.choice([1, 2, 3]))]
                view = chance.choice([*views, any_view(chance, schema, 0, 2)])
                if sum(len(each.ranges) for each in [*views, view]) > 6:
                    continue
                changes = any_batch(chance, any_base(chance, schema, 2, (0, 1, 2)), chance.choice([0, 1, 2]), 1, (0, 1, 2))
                rule = make_rule(views, changes, view) or any_tree(chance, Names(views, changes, view), [6], low=0, high=2)
                for other in [rule, spoilt(chance, views, changes, view, rule)]:
                    if other is not None:
                        told[self.agrees(views, changes, view, other, states)] += 1
        self.assertGreater(min(told.values()), 60)

    def agrees(self, views, changes, view, rule, states):
        """See that no tables contradict that a rule is right; return whether it is."""
        right = self.judges(views, changes, view, rule)
        for tables in states if right else []:
            if not isinstance(made(view.schema, tables, changes), int):
                for key in range(3):
                    self.assertFalse(is_wrong_at(views, changes, view, rule, tables, key), (rule, tables, key))
        return right


class BoundsTest(JudgingCase):

    def test_a_hundred_questions_behind_one_another(self):
        leaf = ("row", ("t", "t/0.1"), ())
        for question, is_yes, right in [
                (("in", 0, "t"), True, True), (("in", 0, "t"), False, False), (("in", 1, "t/0.1"), True, True),
                (("below", "t/0.1/1=0", 11), True, True), (("below", "t/0.1/1=0", 10), True, False),
                (("below", "t/0.1/1=0", 30), True, True), (("below", "t/0.1/1=0", 11), False, False),
                (("below", "t/0.1/1=0", -1000), False, False)]:
            inner = ("below", "t/0.1/1=0", 11, leaf, NONE)
            for _ in range(97):
                inner = question + ((inner, NONE) if is_yes else (NONE, inner))
            rule = ("in", 0, "t", ("in", 1, "t/0.1", inner, NEVER), NONE)
            self.assertIs(self.judges([PLACES, REGIONS], [], SMALL, rule), right, (question, is_yes))

    def test_the_answer_no_again_and_again(self):
        # Regions that are not of 1 to 9, and not of 21 to 30, with a hundred more such questions.
        both, = shop_views("view region\n  range size 1 9")
        other, = shop_views("view region\n  range size 21 30")
        view, = shop_views("view region\n  range size 5 25")
        rule = ("below", "t/2=0", 5, NONE, ("below", "t/2=0", 26, ("row", ("t",), ()), NONE))
        for number in range(97):
            rule = ("in", number & 1, "t", rule, rule) if number < 5 else ("in", number & 1, "t", NONE, rule)
        self.assertFalse(self.judges([both, other, REGIONS], [], view, ("in", 2, "t", rule, NONE)))
        rule = ("below", "t/2=0", 10, NONE, ("below", "t/2=0", 21, ("row", ("t",), ()), NONE))
        narrow, = shop_views("view region\n  range size 10 20")
        for number in range(97):
            rule = ("in", number & 1, "t", NONE, rule)
        self.assertTrue(self.judges([both, other, REGIONS], [], narrow, ("in", 2, "t", rule, NONE)))

    def test_chains_of_ends(self):
        # Of the ends above the least one, that by which the view goes, none leads to the no part where a row is.
        rule = ("row", ("t", "t/0.1"), ())
        for end in range(11, 100):
            rule = ("below", "t/0.1/1=0", end, rule, NONE)
        rule = ("in", 0, "t", ("in", 1, "t/0.1", rule, NEVER), NONE)
        self.assertTrue(self.judges([PLACES, REGIONS], [], SMALL, rule))
        leaves = [number for number, tree in enumerate(trees_of(rule)) if tree == NONE]
        for number in leaves[:-1:9]:
            self.assertFalse(self.judges([PLACES, REGIONS], [], SMALL, with_tree(rule, number, ("row", ("t", "t/0.1"), ()))))
            self.assertFalse(self.judges([PLACES, REGIONS], [], SMALL, with_tree(rule, number, NEVER)))

    def test_five_hundred_questions(self):
        changes = [("set", "region", (3, 1), (3, 2)), ("insert", "shop", (5, 1, 3))]
        kept = [PLACES, REGIONS]
        rule = parse_rule("is 5\n  row t region:3 |\nelse\n" + "\n".join("  " + row for row in TEXT.split("\n")))
        # Questions that tell nothing of the view, with the same rule behind each answer.
        for question in [("in", 1, "region:3"), ("is", 5), ("in", 0, "shop:5"), ("in", 0, "t"), ("in", 1, "region:3"), ("is", 5),
                         ("in", 0, "shop:5")]:
            if len(trees_of(rule)) < 500:
                rule = question + (rule, rule)
        self.assertTrue(300 < len(trees_of(rule)) // 2 <= 500)
        self.assertTrue(self.judges(kept, changes, SMALL, rule))
        told = [is_right(kept, changes, SMALL, with_tree(rule, number, NEVER)) for number, tree in enumerate(trees_of(rule))
                if tree[0] in ("none", "row")]
        # To each of four leaves some base leads, by one way.
        self.assertEqual(told.count(False), 4)
        self.assertGreater(told.count(True), 200)


if __name__ == "__main__":
    unittest.main()
