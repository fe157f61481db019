"""Points 21 and 22: reasons of rules, and which values are reasons."""

import copy
import random
import unittest

from makers import PLACES, REGIONS, SHOPS
from onlyviews.judging import is_right
from onlyviews.making import make_rule
from onlyviews.reasons import are_reasons, reasons
from onlyviews.rules import is_rule, parse_rule
from onlyviews.schemas import Schema
from onlyviews.views import View
from proofs import are_reasons_by_words, facts_of, faults_of, spoilt_tree, trees_in, with_part
from rulemakers import Names, any_rule_case, any_tree, spoilt, told_names
from samples import ANY_VALUES, nested

SMALL = View.parse(SHOPS, "view shop\n  follow place\n    range size - 10")
RULE = parse_rule("in 0 t\n  in 1 t/0.1\n    below t/0.1/1=0 11\n      row t t/0.1 |\n    else\n      none\n  else\n    never\n"
                  "else\n  none")
NONE, NEVER = ("none",), ("never",)
DEEP = Schema.parse("table a\n  plain p\ntable b\n  plain p\n  plain q\n  ref r a\n  ref s a\ntable c\n  ref r b")


def shop_views(*texts):
    return [View.parse(SHOPS, text) for text in texts]


def deep_views(*texts):
    return [View.parse(DEEP, text) for text in texts]


def f(number=None):
    return ("false", number)


def at(name, reference, *trees):
    return ("at", name, reference, list(trees))


class ReasonsCase(unittest.TestCase):

    def judges(self, views, changes, view, rule, value):
        """Return whether a value is reasons, having seen that a check by the words of point 22 says the same."""
        told = are_reasons(views, changes, view, rule, value)
        self.assertIs(told, are_reasons_by_words(views, changes, view, rule, value), (value, rule, changes))
        return told

    def gives(self, views, changes, view, rule):
        """Return reasons of a rule, having seen that they are some."""
        rule = parse_rule(rule) if isinstance(rule, str) else rule
        self.assertTrue(is_rule(views, changes, view, rule), rule)
        told = reasons(views, changes, view, rule)
        self.assertIs(told is not None, is_right(views, changes, view, rule))
        self.assertIs(self.judges(views, changes, view, rule, told), told is not None)
        # They hold for whoever does not count ranges where the fault cannot be by rows.
        self.assertIs(are_reasons_by_words(views, changes, view, rule, told, False), told is not None)
        return told

    def case(self, views, changes, view, rule, leaf, fault):
        """Return a check of trees of cases in the place of one refutation of a right rule."""
        rule = parse_rule(rule) if isinstance(rule, str) else rule
        told = self.gives(views, changes, view, rule)

        def check(expected, *trees):
            value = [list(each) for each in told]
            value[leaf][fault] = ("root", list(trees))
            self.assertIs(self.judges(views, changes, view, rule, value), expected, trees)
        return check


class ExamplesTest(ReasonsCase):

    REASONS = [
        [("root", [at("t", "place", ("fault", [("empty", "t.place", "size")])), f(0)]), ("root", [f(), f()]),
         ("root", [at("t", "place", f()), f(0)])],
        [("root", [at("t", "place", ("empty", "t.place", "size")), f(0)])],
        [("root", [at("t", "place", f(1)), f(0)])],
        [("root", [f(0), f()])]]

    def test_a_rule_by_hand(self):
        self.assertTrue(self.judges([PLACES, REGIONS], [], SMALL, RULE, self.REASONS))
        self.gives([PLACES, REGIONS], [], SMALL, RULE)
        self.assertIs(are_reasons(value=self.REASONS, rule=RULE, view=SMALL, changes=(), views=[PLACES, REGIONS]), True)
        self.assertIsNotNone(reasons(rule=RULE, view=SMALL, changes=(), views=[PLACES, REGIONS]))

    def test_rules_that_are_not_right(self):
        for rule in (NONE, NEVER, ("in", 0, "t", NONE, NONE), ("in", 0, "t", ("row", ("t", "t/0.1"), ()), NONE)):
            self.assertIsNone(self.gives([PLACES, REGIONS], [], SMALL, rule))
            self.assertFalse(self.judges([PLACES, REGIONS], [], SMALL, rule, self.REASONS))
        self.assertIs(are_reasons([PLACES, REGIONS], [], SMALL, NONE, reasons([PLACES, REGIONS], [], SMALL, NONE)), False)

    def test_lists_and_tuples(self):
        right = self.REASONS
        for value in [tuple(right), [tuple(each) for each in right], right[:-1], right + [[]], right + right[-1:], [], None,
                      right[1:], right[::-1], [right], [[]] * 4, [each[:-1] for each in right], [each + each for each in right],
                      [right[0][::-1]] + right[1:], [right[1], right[0], *right[2:]], dict(enumerate(right))]:
            self.assertFalse(self.judges([PLACES, REGIONS], [], SMALL, RULE, value))
        # The trees of a leaf of four facts are not those of another one.
        self.assertTrue(self.judges([PLACES, REGIONS], [], SMALL, RULE, copy.deepcopy(right)))

    def test_new_lists(self):
        told = reasons([PLACES, REGIONS], [], SMALL, RULE)
        seen = []
        left = [told]
        while left:
            part = left.pop()
            if isinstance(part, list):
                seen.append(id(part))
            left += [inner for inner in part if isinstance(inner, (list, tuple))]
        self.assertEqual(len(seen), len(set(seen)))
        told[0][0][1].clear()
        told.clear()
        self.assertTrue(are_reasons([PLACES, REGIONS], [], SMALL, RULE, reasons([PLACES, REGIONS], [], SMALL, RULE)))

    def test_nothing_is_changed(self):
        views, changes = [PLACES, REGIONS], [("insert", "shop", (5, 1, 3))]
        rule = make_rule(views, changes, SMALL)
        told = reasons(views, changes, SMALL, rule)
        before = copy.deepcopy([changes, rule, told])
        are_reasons(views, changes, SMALL, rule, told)
        self.assertEqual([views, changes, rule, told], [[PLACES, REGIONS], *before])

    def test_any_value(self):
        values = ANY_VALUES + nested(("root", []), 40) + [self.REASONS[0], ("root", [f(), f(0)]), f(), "roots", ["root"]]
        for value in values:
            self.assertIs(self.judges([PLACES, REGIONS], [], SMALL, RULE, value), False)
            for spoilt_one in ([value], [value] * 4, self.REASONS[:3] + [value], self.REASONS[:3] + [[value]],
                               self.REASONS[:3] + [[("root", value)]], self.REASONS[:3] + [[("root", [value, f()])]],
                               self.REASONS[:3] + [[("root", [(value, 0), f()])]], self.REASONS[:3] + [[(value, [f(0), f()])]],
                               self.REASONS[:3] + [[("root", [("empty", value, "size"), f()])]],
                               self.REASONS[:3] + [[("root", [("empty", "t", value), f()])]],
                               self.REASONS[:3] + [[("root", [("equal", value), f()])]],
                               self.REASONS[:3] + [[("root", [at(value, "place", f(0)), f()])]],
                               self.REASONS[:3] + [[("root", [at("t", value, f(0)), f()])]],
                               self.REASONS[:3] + [[("root", [("at", "t", "place", value), f()])]],
                               self.REASONS[:3] + [[("root", [("fact", value, [f(0)]), f()])]],
                               self.REASONS[:3] + [[("root", [("fact", 0, value), f()])]],
                               self.REASONS[:3] + [[("root", [("fault", value), f()])]]):
                self.assertIs(self.judges([PLACES, REGIONS], [], SMALL, RULE, spoilt_one), False)
            told = self.REASONS[:3] + [[("root", [("false", value), f()])]]
            good = isinstance(value, int) and not isinstance(value, bool) and value == 0
            self.assertIs(self.judges([PLACES, REGIONS], [], SMALL, RULE, told), good)


class RootTest(ReasonsCase):

    def test_cases_of_named_ids(self):
        # Ascending, whether the row is there ahead of the batch, behind it, or not.
        changes = [("insert", "shop", (9, 1, 3)), ("delete", "shop", (5, 0, 3))]
        check = self.case([PLACES], changes, PLACES, "is 9\n  row t region:3 |\nelse\n  is 5\n    none\n  else\n    in 0 t\n"
                          "      row t t/0.1 |\n    else\n      none", 1, 0)
        check(True, f(), f(0), f(1), f(1))
        check(False, f(0), f(), f(1), f(1))
        check(False, f(), f(0), f(1))
        check(False, f(), f(0), f(1), f(1), f(1))
        check(False, f(1), f(0), f(1), f(1))
        check(True, f(), f(1), f(1), f(1))
        check(True, f(), f(0), f(1), f())
        check(False, f(), f(0), f(), f())
        check(False)

    def test_only_at_the_root(self):
        check = self.case([PLACES, REGIONS], [], SMALL, RULE, 3, 0)
        check(True, f(0), f())
        check(False, ("root", [f(0), f()]), f())
        check(False, f(0), ("root", [f(0), f()]))
        for value in (f(0), at("t", "place", f(0)), [("root", [f(0), f()])], ("root", (f(0), f())), ("root", [f(0), f()], 0),
                      ("root",), ["root", [f(0), f()]], ("Root", [f(0), f()]), ("fault", [f(0), f()])):
            told = ExamplesTest.REASONS[:3] + [[value]]
            self.assertFalse(self.judges([PLACES, REGIONS], [], SMALL, RULE, told))


class AtTest(ReasonsCase):

    CHANGES = [("set", "region", (3, 1), (3, 12)), ("set", "region", (8, 5), (8, 6))]
    TEXT = ("in 0 t\n  same t/0.1 3\n    none\n  else\n    in 1 t/0.1\n      same t/0.1 8\n        row t t/0.1 |\n      else\n"
            "        below t/0.1/1=0 11\n          row t t/0.1 |\n        else\n          none\n    else\n      never\nelse\n  none")

    def test_the_rows_to_which_it_leads(self):
        # The leaf none behind same t/0.1 3.
        check = self.case([PLACES, REGIONS], self.CHANGES, SMALL, self.TEXT, 0, 0)
        own = [f(), f(1), f(1)]
        check(True, at("t", "place", *own), f(0))
        check(False, at("t", "place", *own[1:]), f(0))
        check(False, at("t", "place", f(1), f(), f(1)), f(0))
        check(False, at("t", "place", *own, f(1)), f(0))
        check(False, at("t", "place"), f(0))
        check(False, ("at", "t", "place", tuple(own)), f(0))
        check(False, at("t", "place", f(), f(), f(1)), f(0))
        check(False, at("t", "open", *own), f(0))
        check(False, at("t", "size", *own), f(0))
        check(False, at("t", "", *own), f(0))
        check(False, at("u", "place", *own), f(0))
        check(False, at("t.place", "place", *own), f(0))
        check(False, at("shop:5", "place", *own), f(0))

    def test_a_reference_that_no_case_has_told(self):
        check = self.case([PLACES, REGIONS], self.CHANGES, SMALL, self.TEXT, 0, 0)
        check(False, at("t", "place", f(), f(1), at("t", "place", f(), f(1), f(1))), f(0))
        check(False, at("t", "place", at("t", "place", f(), f(1), f(1)), f(1), f(1)), f(0))
        # A row that is not there leads to none.
        check(False, at("t", "place", f(), f(1), f(1)), at("t", "place", f(0), f(0), f(0)))

    def test_rows_that_changes_name_or_delete_or_insert(self):
        changes = [("insert", "region", (3, 1)), ("delete", "region", (8, 5))]
        check = self.case([PLACES], changes, PLACES, "in 0 t\n  row t t/0.1 |\nelse\n  none", 0, 2)
        check(True, at("t", "place", f()), f(0))
        check(False, at("t", "place", f(), f()), f(0))
        check(False, at("t", "place", f(), f(), f()), f(0))
        changes = [("set", "shop", (5, 1, 3), (5, 0, 4))]
        check = self.case([PLACES], changes, PLACES, "is 5\n  row t region:4 |\nelse\n  in 0 t\n    row t t/0.1 |\n  else\n    none", 0, 2)
        check(True, f(), f(0), f(0))
        check(True, f(), at("t", "place", f(0)), f(0))
        check(False, at("t", "place", f()), f(0), f(0))
        check(False, at("shop:5", "place", f()), f(0), f(0))
        # A region leads nowhere.
        check(False, at("region:3", "place", f()), f(0), f(0))

    def test_rows_named_in_several_ways(self):
        changes = [("set", "c", (5, 3), (5, 4)), ("set", "a", (7, 1), (7, 2))]
        view, = deep_views("view c\n  follow r\n    follow r")
        views = deep_views("view c\n  follow r\n    follow r", "view b\n  follow r")
        rule = ("is", 5, ("in", 1, "b:4", ("row", ("t", "b:4", "b:4/1.1"), ()), NEVER),
                ("in", 0, "t", ("row", ("t", "t/0.1", "t/0.2"), ()), NONE))
        check = self.case(views, changes, view, rule, 0, 3)
        rest = [f(0), f(0)]
        check(True, at("b:4", "r", f(), f()), *rest)
        # Ahead of the batch t leads to b:3.
        check(False, at("t.r", "r", f(), f()), *rest)
        check(False, at("c:5.r", "r", f(), f()), *rest)
        check(True, at("c:5.r", "r", *[at("b:4", "r", f(), f())] * 2), *rest)
        check(True, at("t.r", "s", *[at("b:4", "r", f(), f())] * 2), *rest)
        check(False, at("t.r", "r", *[at("b:3", "r", f(), f())] * 2), *rest)
        check(False, at("b:4", "r", f(), f()), at("t", "r", f(0)), at("t", "r", f(0)))
        check(True, at("b:4", "r", f(), f()), at("t", "r", f(0)), f(0))
        check(True, at("b:4", "r", f(), f()), at("t", "r", at("t.r", "r", f(0), f(0))), f(0))
        check(True, at("b:4", "r", f(), f()), at("t", "r", at("t.r", "r", f(0), at("t.r", "s", f(0), f(0)))), f(0))
        check(False, at("b:4", "r", f(), f()), at("t.r", "r", f(0), f(0)), f(0))
        check(False, at("b:4", "r", f(), f()), at("t", "r", at("t.r.r", "r", f(0))), f(0))
        check(False, at("b:4", "r", f(), f()), at("b:9", "r", f(0), f(0)), f(0))
        check(False, at("b:4", "r", f(), f()), at("b:03", "r", f(0), f(0)), f(0))
        check(True, at("b:4", "r", f(), f()), at("b:3", "r", f(0), f(0)), at("b:3", "r", f(0), at("b:4", "s", f(0), f(0))))


class FactTest(ReasonsCase):

    VIEWS = shop_views("view region\n  range size 6 -", "view shop\n  range open 1 -\n  follow place\n    range size 6 -",
                       "view shop\n  shown open\n  follow place")
    VIEW = shop_views("view shop\n  range open 1 -\n  follow place\n    range size - 5")[0]
    TEXT = ("in 2 t\n  below t/2=0 1\n    none\n  else\n    in 1 t\n      none\n    else\n      row t t/2.1 |\nelse\n  none")

    def test_ranges_that_do_not_hold(self):
        # The leaf of the row, and the fault that the view has none; fact 2 is the answer no to in 1 t.
        check = self.case(self.VIEWS, [], self.VIEW, self.TEXT, 2, 0)
        right = at("t", "place", ("fault", [("empty", "t", "open"), ("fact", 2, [("empty", "t", "open"), ("empty", "t.place", "size")])]))
        low = ("fact", 2, [("empty", "t", "open"), at("t", "place", ("fault", [("empty", "t", "open"), ("empty", "t.place", "size")]))])
        check(True, right, f(0))
        check(True, low, f(0))
        inner = ("fault", [("empty", "t", "open"), ("empty", "t.place", "size")])
        for number in (0, 1, 3, -1, None, True, "2"):
            check(False, ("fact", number, [("empty", "t", "open"), at("t", "place", inner)]), f(0))
        check(False, ("fact", 2, [at("t", "place", inner), ("empty", "t", "open")]), f(0))
        check(False, ("fact", 2, [("empty", "t", "open")]), f(0))
        check(False, ("fact", 2, [at("t", "place", inner)]), f(0))
        check(False, ("fact", 2, [("empty", "t", "open"), at("t", "place", inner), f(0)]), f(0))
        check(False, ("fact", 2, [("empty", "t", "open"), ("fact", 2, [("empty", "t", "open"), at("t", "place", inner)])]), f(0))
        check(False, right, ("fact", 2, [f(0), f(0)]))
        check(False, ("fact", 2, (("empty", "t", "open"), at("t", "place", inner))), f(0))
        check(False, ("fact", 2, []), f(0))

    def test_the_row_must_be_told(self):
        views = shop_views("view region\n  range size 6 -", "view shop\n  follow place")
        view, = shop_views("view shop\n  follow place\n    range size - 5")
        text = "in 1 t\n  in 0 t/1.1\n    none\n  else\n    row t t/1.1 |\nelse\n  none"
        check = self.case(views, [], view, text, 1, 0)
        inner = ("fault", [("empty", "t.place", "size")])
        check(True, at("t", "place", ("fact", 1, [inner])), f(0))
        check(True, ("fault", [at("t", "place", ("fact", 1, [("empty", "t.place", "size")]))]), f(0))
        check(False, ("fact", 1, [at("t", "place", inner)]), f(0))
        check(False, at("t", "place", inner), f(0))
        # Of the answer yes, and of views without ranges, no such case can be told.
        check = self.case(views, [], view, text, 0, 0)
        check(True, at("t", "place", ("empty", "t.place", "size")), f(0))
        check(False, at("t", "place", ("fact", 1, [("empty", "t.place", "size")])), f(0))
        check = self.case(views, [], view, text, 2, 0)
        check(True, f(0), f())
        check(False, ("fact", 0, []), f())
        check(False, ("fact", 0, [f(0)]), f())

    def test_rows_that_changes_name(self):
        views = shop_views("view region\n  range size 6 -", "view shop\n  follow place")
        view, = shop_views("view shop\n  follow place\n    range size - 5")
        changes = [("set", "region", (3, 1), (3, 5)), ("insert", "region", (4, 9))]
        text = "in 1 t\n  in 0 t/1.1\n    none\n  else\n    row t t/1.1 |\nelse\n  none"
        check = self.case(views, changes, view, text, 1, 0)
        inner = ("fault", [("empty", "t.place", "size")])
        # Behind the batch region 3 has a size of 5, at which the range of the view holds.
        check(True, at("t", "place", ("fault", [f()]), ("fact", 1, [inner])), f(0))
        check(True, at("t", "place", ("fact", 1, [("fault", [f()])]), ("fact", 1, [inner])), f(0))
        check(False, at("t", "place", f(), ("fact", 1, [inner])), f(0))
        check(False, at("t", "place", ("fault", [f(1)]), ("fact", 1, [inner])), f(0))
        check(False, at("t", "place", ("fault", [("empty", "t.place", "size")]), ("fact", 1, [inner])), f(0))
        check(False, at("t", "place", ("fault", [("empty", "region:3", "size")]), ("fact", 1, [inner])), f(0))

    def test_rows_that_are_not_there(self):
        views = shop_views("view region\n  range size 6 -", "view region\n  range size - 5")
        view, = shop_views("view region")
        text = "is 4\n  in 0 t\n    never\n  else\n    in 1 t\n      never\n    else\n      row t |\nelse\n  in 0 t\n    row t |\n  else\n    in 1 t\n      row t |\n    else\n      none"
        check = self.case(views, [("insert", "region", (4, 9))], view, text, 5, 0)
        both = ("fact", 1, [("fact", 2, [("empty", "t", "size")])])
        check(True, f(0), both, f())
        check(True, f(0), ("fact", 2, [("fact", 1, [("empty", "t", "size")])]), f())
        check(False, ("fact", 1, [f(0)]), both, f())
        check(False, f(0), both, ("fact", 1, [f()]))
        check(False, f(0), ("fact", 1, [("empty", "t", "size")]), f())


class FaultTest(ReasonsCase):

    def test_ranges_of_the_view(self):
        view, = shop_views("view shop\n  range open 0 5\n  follow place\n    range size 1 -")
        check = self.case([view], [], view, "in 0 t\n  row t t/0.1 |\nelse\n  none", 0, 0)
        right = at("t", "place", ("fault", [("empty", "t", "open"), ("empty", "t.place", "size")]))
        check(True, right, f(0))
        check(True, ("fault", [("empty", "t", "open"), at("t", "place", ("empty", "t.place", "size"))]), f(0))
        check(False, at("t", "place", ("fault", [("empty", "t.place", "size"), ("empty", "t", "open")])), f(0))
        check(False, at("t", "place", ("fault", [("empty", "t", "open")])), f(0))
        check(False, at("t", "place", ("fault", [("empty", "t", "open"), ("empty", "t.place", "size"), f()])), f(0))
        check(False, at("t", "place", ("fault", [("fault", [("empty", "t", "open"), f()]), ("empty", "t.place", "size")])), f(0))
        check(False, at("t", "place", ("fault", [])), f(0))
        # Only where t is there behind the batch.
        check(False, right, ("fault", [f(0), f(0)]))
        check = self.case([view], [], view, "in 0 t\n  row t t/0.1 |\nelse\n  none", 0, 1)
        check(True, f(), f())
        check(False, ("fault", [f(), f()]), f())

    def test_a_deleted_row(self):
        view, = shop_views("view region\n  range size 1 -")
        text = "is 3\n  none\nelse\n  in 0 t\n    row t |\n  else\n    none"
        check = self.case([view], [("delete", "region", (3, 5))], view, text, 1, 0)
        check(True, f(0), ("fault", [("empty", "t", "size")]), f(1))
        check(False, ("fault", [f(0)]), ("fault", [("empty", "t", "size")]), f(1))
        check = self.case([view], [("delete", "region", (3, 5))], view, text, 0, 0)
        check(True, f(), f(0), f(0))
        check(False, ("fault", [f()]), f(0), f(0))

    def test_less_and_greater(self):
        six, seven, shown = shop_views("view region\n  range size 6 -", "view region\n  range size 7 -",
                                       "view region\n  shown size\n  range size 6 6")
        text = "in 0 t\n  in 1 t\n    none\n  else\n    row t | 6\nelse\n  none"
        check = self.case([six, seven], [], shown, text, 1, 2)
        empty = ("empty", "t", "size")
        check(True, ("fault", [empty, ("fact", 1, [empty])]), f(0))
        check(True, ("fact", 1, [("fault", [empty, empty])]), f(0))
        check(True, ("fault", [empty, empty]), f(0))
        check(False, empty, f(0))
        check(False, ("fact", 1, [empty]), f(0))
        check(False, ("fault", [empty]), f(0))
        check(False, ("fault", [empty, empty, empty]), f(0))
        check(False, ("fault", [("fault", [empty, empty]), empty]), f(0))
        check(False, ("fault", [f(), f()]), f(0))
        check(False, ("fault", [f(0), empty]), f(0))
        check(False, ("equal", 6), f(0))
        check(False, ("equal", None), f(0))

    def test_told_integers(self):
        changes = [("set", "region", (3, 1), (3, 7))]
        text = "is 3\n  row t | 7\nelse\n  in 0 t\n    row t | t/0=0\n  else\n    none"
        check = self.case([REGIONS], changes, REGIONS, text, 0, 2)
        check(True, ("fault", [f(), f()]), f(0), f(0))
        check(False, f(), f(0), f(0))
        check(False, ("fault", [f()]), f(0), f(0))
        check(False, ("fault", [("empty", "t", "size"), f()]), f(0), f(0))
        check(False, ("equal", 7), f(0), f(0))
        check(True, ("fault", [f(), f()]), ("fault", [f(0), f(0)]), ("fault", [f(0), f()]))


class FalseTest(ReasonsCase):

    def test_answers_by_rows(self):
        changes = [("set", "region", (3, 1), (3, 1)), ("delete", "shop", (5, 0, 3))]
        text = ("is 5\n  in 0 t\n    same t/0.1 3\n      none\n    else\n      never\n  else\n    never\nelse\n  in 0 t\n    row t t/0.1 |\n"
                "  else\n    none")
        check = self.case([PLACES], changes, PLACES, text, 1, 0)
        # t is shop 5, which leads to region 3; a further shop is not shop 5.
        check(True, f(2), f(0), f(0))
        check(False, f(0), f(0), f(0))
        check(False, f(1), f(0), f(0))
        check(False, f(), f(0), f(0))
        check(False, f(2), f(), f(0))
        check(False, f(2), f(1), f(0))
        check(False, f(2), f(2), f(0))
        check(False, f(3), f(0), f(0))
        check(True, f(2), f(0), f(1))
        check(False, f(2), f(0), f(2))
        check = self.case([PLACES], changes, PLACES, text, 2, 0)
        # Shop 5 is in each view without ranges.
        check(True, f(1), f(0), f(0))
        check(False, f(0), f(0), f(0))
        check(False, f(), f(0), f(0))
        check(False, f(1), f(0), f(1))
        check(True, f(1), f(1), f(0))

    def test_answers_by_values(self):
        views = shop_views("view region\n  range size 1 5", "view region\n  shown size")
        view, = shop_views("view region\n  range size 2 2")
        text = ("is 3\n  in 0 t\n    in 1 t\n      below t/1=0 3\n        never\n      else\n        {}\n    else\n      never\n  else\n    never\n"
                "else\n  in 1 t\n    below t/1=0 2\n      none\n    else\n      below t/1=0 3\n        row t |\n      else\n        none\n"
                "  else\n    none")
        changes = [("set", "region", (3, 4), (3, 2))]
        check = self.case(views, changes, view, text.format("row t |"), 0, 0)
        check(True, f(3), f(0), f(0))
        for number in (0, 1, 2, 4, None):
            check(False, f(number), f(0), f(0))
        # The ranges of view 0 hold for region 3, so that it has not the answer no.
        check = self.case(views, changes, view, text.format("row t |"), 3, 0)
        check(True, ("fact", 1, [f(1)]), f(0), f(0))
        check(False, f(1), f(0), f(0))
        check(False, ("fact", 1, [f(0)]), f(0), f(0))
        # The fault that the view has no row: its range holds behind the batch.
        check = self.case(views, changes, view, text.format("row t |"), 1, 0)
        check(True, ("fault", [f()]), f(0), f(0))
        check(False, f(), f(0), f(0))
        # The answer yes is not that of a region of size 6.
        changes = [("set", "region", (3, 6), (3, 4))]
        text = "is 3\n  in 0 t\n    never\n  else\n    none\nelse\n" + text.partition("\nelse\n")[2]
        check = self.case(views, changes, view, text, 0, 0)
        check(True, f(1), f(0), f(0))
        check(False, f(), f(0), f(0))
        check(False, f(0), f(0), f(0))
        check(False, f(1), f(1), f(0))
        check(True, f(1), f(0), f(1))

    def test_the_fault(self):
        view, = shop_views("view region\n  shown size\n  range size 1 5")
        changes = [("insert", "region", (3, 0)), ("delete", "region", (4, 1))]
        text = "is 3\n  none\nelse\n  is 4\n    none\n  else\n    in 0 t\n      row t | t/0=0\n    else\n      none"
        for leaf, right in [(0, [f(), f(0), f(0), f(0)]), (1, [f(0), f(), f(1), f(1)])]:
            check = self.case([view], changes, view, text, leaf, 0)
            # Behind the batch the range does not hold for region 3, and region 4 is not there.
            check(True, *right)
            check(False, *right[:2], f(), right[3])
            check(True, *right[:3], f())
        check = self.case([view], changes, view, text, 2, 0)
        check(True, f(0), f(1), ("fault", [("empty", "t", "size")]), f(2))
        check(False, f(0), f(1), f(), f(2))
        check(False, f(0), f(1), ("fault", [("empty", "t", "size")]), f())
        check(False, f(), f(1), ("fault", [("empty", "t", "size")]), f(2))

    def test_views_without_ranges(self):
        view, = shop_views("view region")
        check = self.case([view], [], view, "in 0 t\n  row t |\nelse\n  none", 0, 0)
        check(True, f(), f(0))
        check(False, f(), f())
        check(False, f(0), f(0))
        check(False, ("fault", [f()]), f(0))
        check(False, ("fault", []), f(0))

    def test_ids_of_the_very_row(self):
        views = shop_views("view shop\n  follow place")
        check = self.case(views, [], views[0], "in 0 t\n  row t t/0.1 |\nelse\n  none", 0, 2)
        check(True, at("t", "place", f()), f(0))
        check(True, at("t", "place", f()), f())
        check(False, f(), f(0))
        check(False, at("t", "place", f(0)), f(0))
        check = self.case(views, [], views[0], "in 0 t\n  row t t/0.1 |\nelse\n  none", 0, 1)
        check(True, f(), f())
        check(True, at("t", "place", f()), f(0))

    def test_never(self):
        check = self.case([PLACES, REGIONS], [], SMALL, RULE, 2, 0)
        check(True, at("t", "place", f(1)), f(0))
        check(False, at("t", "place", f()), f(0))
        check(False, at("t", "place", f(1)), f())
        check(False, f(1), f(0))
        check(False, at("t", "place", f(0)), f(0))


class EmptyTest(ReasonsCase):

    def test_names_and_columns(self):
        check = self.case([PLACES, REGIONS], [], SMALL, RULE, 1, 0)
        check(True, at("t", "place", ("empty", "t.place", "size")), f(0))
        for name, column in [("t.place", "open"), ("t", "size"), ("t", "open"), ("t", "place"), ("t.place", ""), ("t.place", "place"),
                             ("t.place.place", "size"), ("t.", "size"), ("place", "size"), ("region:3", "size"), ("t.size", "size"),
                             ("t/0.1", "size"), ("shop:5.place", "size"), (".place", "size"), ("t..place", "size")]:
            check(False, at("t", "place", ("empty", name, column)), f(0))
        check(False, ("empty", "t.place", "size"), f(0))
        check(False, at("t", "place", ("empty", "t.place", "size", 0)), f(0))
        check(False, at("t", "place", ("empty", "t.place")), f(0))

    def test_ends(self):
        for end in (-1000, 0, 1000):
            view, same = shop_views(f"view region\n  range size - {end}", f"view region\n  range size {end} -")
            text = "in 0 t\n  below t/0=0 {}\n    {}\n  else\n    {}\nelse\n  none"
            right = parse_rule(text.format(end + 1, "row t |", "none"))
            check = self.case([REGIONS], [], view, right, 1, 0)
            check(True, ("empty", "t", "size"), f(0))
            check = self.case([REGIONS], [], view, right, 0, 0)
            check(True, ("fault", [("empty", "t", "size")]), f(0))
            check(False, ("empty", "t", "size"), f(0))
            right = parse_rule(text.format(end, "none", "row t |"))
            check = self.case([REGIONS], [], same, right, 0, 0)
            check(True, ("empty", "t", "size"), f(0))

    def test_beyond_the_bounds_of_values(self):
        # What is left below -10 ** 6 is left: the rule is wrong for another value.
        view, = shop_views("view region\n  shown size\n  range size - -1000")
        for value in (10 ** 6, -10 ** 6):
            rule = ("in", 0, "t", ("row", ("t",), (value,)), NONE)
            self.assertIsNone(self.gives([view], [], view, rule))
            empty = ("empty", "t", "size")
            for pair in ([empty, empty], [empty, f()], [f(), empty]):
                told = [[("root", [("fault", [empty]), f(0)]), ("root", [f(), f()]), ("root", [("fault", pair), f(0)])],
                        [("root", [("fact", 0, [empty]), f()])]]
                self.assertFalse(self.judges([view], [], view, rule, told))

    def test_ranges_that_never_hold(self):
        never, = shop_views("view shop\n  follow place\n    range size 5 4")
        check = self.case([never], [], never, "in 0 t\n  never\nelse\n  none", 0, 0)
        check(True, at("t", "place", ("empty", "t.place", "size")), f(0))
        check(False, ("empty", "t.place", "size"), f(0))
        check = self.case([never], [], never, "in 0 t\n  never\nelse\n  none", 1, 0)
        check(True, at("t", "place", ("empty", "t.place", "size")), f())
        check(False, at("t", "place", ("empty", "t.place", "size")), f(0))

    def test_ranges_without_ends(self):
        always, = shop_views("view region\n  range size - -")
        check = self.case([always], [], always, "in 0 t\n  row t |\nelse\n  none", 0, 0)
        check(True, ("fault", [("empty", "t", "size")]), f(0))
        check(False, f(), f(0))
        check = self.case([always], [], always, "in 0 t\n  row t |\nelse\n  none", 1, 0)
        check(True, ("fact", 0, [("empty", "t", "size")]), f())
        check(False, f(0), f())

    def test_rows_that_changes_name_or_that_are_not_there(self):
        view, = shop_views("view region\n  range size 5 4")
        check = self.case([view], [("set", "region", (3, 1), (3, 2))], view, "none", 0, 0)
        empty = ("empty", "t", "size")
        check(True, f(), empty, f())
        check(False, empty, empty, f())
        check(False, ("empty", "region:3", "size"), empty, f())
        check(False, f(), empty, empty)
        check(False, f(), f(), f())
        check(False, f(), ("empty", "region:3", "size"), f())


class EqualTest(ReasonsCase):

    def test_the_same_column_of_the_same_row(self):
        view, = shop_views("view shop\n  shown open\n  follow place\n    shown size")
        check = self.case([view], [], view, "in 0 t\n  row t t/0.1 | t/0=0 t/0=1\nelse\n  none", 0, 3)
        check(True, ("equal", None), f(0))
        check(True, at("t", "place", ("equal", None)), f(0))
        check(False, ("equal", 0), f(0))
        check(False, ("equal", True), f(0))
        check(False, f(), f(0))
        check(False, ("fault", [f(), f()]), f(0))
        check(False, ("equal", None, 0), f(0))
        check(False, ("equal",), f(0))
        check = self.case([view], [], view, "in 0 t\n  row t t/0.1 | t/0=0 t/0=1\nelse\n  none", 0, 4)
        check(True, at("t", "place", ("equal", None)), f(0))
        check(False, ("equal", None), f(0))
        check = self.case([view], [], view, "in 0 t\n  row t t/0.1 | t/0=0 t/0=1\nelse\n  none", 0, 2)
        check(True, at("t", "place", f()), f(0))
        check(False, at("t", "place", ("equal", None)), f(0))

    def test_told_integers(self):
        view, = shop_views("view shop\n  follow place\n    shown size")
        text = "in 0 t\n  in 1 t/0.1\n    {}\n  else\n    never\nelse\n  none"
        for new, right in [(1, True), (2, False)]:
            changes = [("set", "region", (3, 1), (3, new))]
            rule = parse_rule(text.format("row t t/0.1 | t/0.1/1=0"))
            self.assertIs(self.gives([PLACES, REGIONS], changes, view, rule) is not None, right)
        check = self.case([PLACES, REGIONS], [("set", "region", (3, 1), (3, 1))], view, rule, 0, 3)
        check(True, at("t", "place", ("equal", None), ("equal", None)), f(0))
        check(True, at("t", "place", ("equal", 1), ("equal", None)), f(0))
        check(False, at("t", "place", ("equal", 2), ("equal", None)), f(0))
        check(False, at("t", "place", ("equal", True), ("equal", None)), f(0))
        check(False, at("t", "place", ("equal", 1), ("equal", 1)), f(0))
        # With the row as it was ahead of the batch and the one behind it, the value is another one.
        rule = parse_rule(text.format("same t/0.1 3\n      row t t/0.1 | 2\n    else\n      row t t/0.1 | t/0.1/1=0"))
        check = self.case([PLACES, REGIONS], [("set", "region", (3, 1), (3, 2))], view, rule, 1, 3)
        check(True, at("t", "place", f(2), ("equal", None)), f(0))
        check(False, at("t", "place", ("equal", None), ("equal", None)), f(0))
        check(False, at("t", "place", ("equal", 1), ("equal", None)), f(0))
        check(False, at("t", "place", ("equal", 2), ("equal", None)), f(0))

    def test_just_one_integer_left(self):
        view, = shop_views("view shop\n  shown open\n  range open 5 5\n  follow place\n    shown size\n    range size 5 5")
        check = self.case([view], [], view, "in 0 t\n  row t t/0.1 | t/0=1 t/0=0\nelse\n  none", 0, 3)
        check(True, at("t", "place", ("equal", 5)), f(0))
        check(False, ("equal", 5), f(0))
        for number in (None, 4, 6, "5", (5,), True):
            check(False, at("t", "place", ("equal", number)), f(0))
        # A row that is not there has no values.
        check(False, at("t", "place", ("equal", 5)), ("equal", 5))
        check(False, at("t", "place", ("equal", 5)), ("equal", None))

    def test_a_told_integer_and_one_left(self):
        view, five = shop_views("view shop\n  follow place\n    shown size", "view region\n  shown size\n  range size 5 5")
        changes = [("set", "shop", (4, 0, 7), (4, 1, 3)), ("set", "region", (3, 1), (3, 5))]
        kept = [view, five]
        rule = ("is", 4, ("in", 1, "region:7", ("row", ("t", "region:3"), ("region:7/1=0",)), ("row", ("t", "region:3"), (5,))),
                ("in", 0, "t", ("same", "t/0.1", 3, ("row", ("t", "t/0.1"), (5,)), ("row", ("t", "t/0.1"), ("t/0=0",))), NONE))
        check = self.case(kept, changes, view, rule, 0, 3)
        check(True, ("equal", 5), f(0), f(0))
        check(False, ("equal", None), f(0), f(0))
        check(False, ("equal", 4), f(0), f(0))
        check(False, ("equal", 5), ("equal", 5), f(0))

    def test_values_of_other_rows(self):
        view, = deep_views("view b\n  follow r\n    shown p\n  follow s\n    shown p")
        self.assertIsNone(self.gives([view], [], view, ("in", 0, "t", ("row", ("t", "t/0.1", "t/0.2"), ("t/0=1", "t/0=0")), NONE)))
        rule = ("in", 0, "t", ("row", ("t", "t/0.1", "t/0.2"), ("t/0=0", "t/0=1")), NONE)
        check = self.case([view], [], view, rule, 0, 4)
        check(True, at("t", "r", ("equal", None)), f(0))
        check(False, at("t", "s", ("equal", None)), f(0))
        check = self.case([view], [], view, rule, 0, 3)
        check(True, at("t", "s", f()), f(0))
        check(False, at("t", "r", f()), f(0))


class DrawnTest(ReasonsCase):

    def test_made_and_spoilt_rules(self):
        told = {True: 0, False: 0}
        for seed in range(500):
            chance = random.Random(seed)
            _, views, view, changes = any_rule_case(chance)
            rule = make_rule(views, changes, view)
            rules = [rule, spoilt(chance, views, changes, view, rule)] if rule is not None else []
            for other in rules + [any_tree(chance, Names(views, changes, view), [5])]:
                if other is not None:
                    told[self.gives(views, changes, view, other) is not None] += 1
        self.assertGreater(min(told.values()), 200)

    def test_spoilt_reasons(self):
        told, words = {True: 0, False: 0}, {}
        for seed in range(500):
            chance = random.Random(seed)
            _, views, view, changes = any_rule_case(chance)
            rule = make_rule(views, changes, view)
            if rule is None:
                continue
            right = self.gives(views, changes, view, rule)
            schema = view.schema
            columns = [name for table in schema.tables for name, _ in schema.columns(table)] or ["p"]
            names = ["t", *told_names(schema, changes)]
            names += [f"{name}.{column}" for name in names for column in columns]
            leaves = list(facts_of(rule))
            for _ in range(25):
                leaf = chance.randrange(len(right))
                fault = chance.randrange(len(right[leaf]))
                tree = spoilt_tree(chance, right[leaf][fault], names, columns, len(leaves[leaf][0]))
                value = [list(trees) for trees in right]
                value[leaf][fault] = tree
                is_told = self.judges(views, changes, view, rule, value)
                if value != right:
                    told[is_told] += 1
                for _, part in trees_in(right[leaf][fault]):
                    words[part[0]] = words.get(part[0], 0) + 1
        self.assertEqual(set(words), {"root", "at", "fact", "fault", "false", "empty", "equal"})
        self.assertGreater(told[True], 30)
        self.assertGreater(told[False], 2000)

    def test_rules_that_are_not_right(self):
        # No value is reasons of them, neither those of a right rule of the same form nor any that are near these.
        many = 0
        for seed in range(900):
            chance = random.Random(seed)
            _, views, view, changes = any_rule_case(chance)
            rule = make_rule(views, changes, view)
            other = None if rule is None else spoilt(chance, views, changes, view, rule)
            if other is None or is_right(views, changes, view, other):
                continue
            right = reasons(views, changes, view, rule)
            leaves = list(facts_of(other))
            for _ in range(10):
                value = [list(trees) for trees in right]
                for trees, (facts, leaf) in zip(value, leaves):
                    for fault, tree in enumerate(trees[:len(faults_of(leaf))]):
                        if chance.random() < 0.3:
                            trees[fault] = spoilt_tree(chance, tree, ["t", *told_names(view.schema, changes)], ["p", "q", "r"], len(facts))
                many += 1
                self.assertFalse(self.judges(views, changes, view, other, value))
        self.assertGreater(many, 1000)

    def test_ids_and_values_of_other_rows(self):
        changes = [("set", "shop", (5, 1, 3), (5, 1, 4))]
        ids = parse_rule("is 5\n  row t region:{} |\nelse\n  in 0 t\n    row t t/0.1 |\n  else\n    none".format(4))
        right = self.gives([PLACES], changes, PLACES, ids)
        other = parse_rule("is 5\n  row t region:{} |\nelse\n  in 0 t\n    row t t/0.1 |\n  else\n    none".format(3))
        self.assertFalse(self.judges([PLACES], changes, PLACES, other, right))
        self.assertIsNone(self.gives([PLACES], changes, PLACES, other))
        told = [list(trees) for trees in right]
        for tree in (f(), f(0), ("equal", None), ("fault", [f(), f()])):
            told[0][2] = ("root", [tree, f(0), f(0)])
            self.assertIs(self.judges([PLACES], changes, PLACES, ids, told), tree == f())
            self.assertFalse(self.judges([PLACES], changes, PLACES, other, told))

    def test_one_case_less_or_more_in_each_place(self):
        many = 0
        for seed in range(60):
            chance = random.Random(seed)
            _, views, view, changes = any_rule_case(chance)
            rule = make_rule(views, changes, view)
            right = None if rule is None else self.gives(views, changes, view, rule)
            for leaf, trees in enumerate(right or []):
                self.assertEqual(len(trees), len(faults_of(list(facts_of(rule))[leaf][1])))
                for fault, tree in enumerate(trees):
                    for way, part in trees_in(tree):
                        inner = part[-1] if isinstance(part[-1], list) else []
                        others = [(*part[:-1], inner[:-1]), (*part[:-1], inner + inner[-1:]), (*part[:-1], tuple(inner))] if inner else []
                        for other in others + [part[:-1], (*part, None), list(part), (part,), part[0], None]:
                            value = [list(each) for each in right]
                            value[leaf][fault] = with_part(tree, way, other)
                            many += 1
                            self.assertFalse(self.judges(views, changes, view, rule, value))
        self.assertGreater(many, 500)


if __name__ == "__main__":
    unittest.main()
