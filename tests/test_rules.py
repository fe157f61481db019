"""Points 18 and 19: rules, their text form, which values are rules, and what a rule tells."""

import copy
import random
import unittest

from makers import PLACES, REGIONS, SHOPS
from onlyviews.bases import Base
from onlyviews.errors import InvalidText
from onlyviews.rules import is_rule, parse_rule, rule_text, run_rule, told_contents
from onlyviews.schemas import Schema
from onlyviews.views import View, contents
from rulemakers import QUESTIONS, Names, any_rule_case, any_tree, spoilt, told_names, trees_of, walked
from samples import ANY_VALUES, nested

SMALL = View.parse(SHOPS, "view shop\n  follow place\n    range size - 10")
TEXT = ("in 0 t\n  in 1 t/0.1\n    below t/0.1/1=0 11\n      row t t/0.1 |\n    else\n      none\n  else\n    never\n"
        "else\n  none")
RULE = ("in", 0, "t", ("in", 1, "t/0.1", ("below", "t/0.1/1=0", 11, ("row", ("t", "t/0.1"), ()), ("none",)), ("never",)),
        ("none",))
KEPT = [{5: ((5, 3), ()), 6: ((6, 4), ())}, {3: ((3,), (12,)), 4: ((4,), (2,))}]
NONE, NEVER = ("none",), ("never",)


def chained(many, question=("below", "t/0=0", 3), on_yes=True):
    """Return a rule with so many questions behind one another."""
    rule = NONE
    for _ in range(many):
        rule = question + ((rule, NEVER) if on_yes else (NEVER, rule))
    return rule


class TextTest(unittest.TestCase):

    def test_examples(self):
        self.assertEqual(rule_text(("in", 0, "t", ("row", ("t", "t/0.1"), (7, "t/0=0")), NONE)),
                         "in 0 t\n  row t t/0.1 | 7 t/0=0\nelse\n  none")
        with self.assertRaises(InvalidText) as caught:
            parse_rule("in 0 t\n  none")
        self.assertEqual(caught.exception.row, 2)
        self.assertEqual(parse_rule(TEXT), RULE)
        self.assertEqual(rule_text(RULE), TEXT)
        self.assertEqual([parse_rule(text=TEXT), rule_text(rule=RULE)], [RULE, TEXT])

    def test_there_and_back(self):
        rules = [NONE, NEVER, ("row", ("t",), ()), ("row", ("a:0", "t", "b:1000000", "t/2.3/0.1"), (0,) * 8),
                 ("row", ("t",), (-10 ** 6, 10 ** 6, "t/2=7", "abcdefgh:0/1.2/0=3")), ("is", 0, NONE, NONE),
                 ("is", 10 ** 6, NONE, NEVER), ("in", 2, "a:5/0.1/1.2/2.3", NONE, NONE), ("same", "t/0.1", 7, NONE, NONE),
                 ("same", "b:3/2.3", 0, NEVER, NONE), ("below", "t/0=0", -1000, NONE, NONE),
                 ("below", "b:3/1.1/2=7", 1001, NONE, NONE), ("in", 0, "t:5", NONE, NONE)]
        rules.append(("is", 1, ("in", 0, "t", rules[3], rules[4]), ("same", "t/0.1", 2, ("is", 3, NONE, NEVER), rules[5])))
        for rule in rules:
            self.assertEqual(parse_rule(rule_text(rule)), rule)
            self.assertEqual(rule_text(parse_rule(rule_text(rule))), rule_text(rule))

    def test_drawn_rules(self):
        for seed in range(200):
            chance = random.Random(seed)
            _, views, view, changes = any_rule_case(chance)
            rule = any_tree(chance, Names(views, changes, view), [20])
            self.assertEqual(parse_rule(rule_text(rule)), rule)

    def test_many_questions_behind_one_another(self):
        for many in (100, 130):
            for on_yes in (True, False):
                rule = chained(many, on_yes=on_yes)
                text = rule_text(rule)
                self.assertEqual(text.count("else"), many)
                told = parse_rule(text)
                self.assertEqual(rule_text(told), text)
                for _ in range(many):
                    self.assertEqual(told[:3], ("below", "t/0=0", 3))
                    told = told[-2 if on_yes else -1]
                self.assertEqual(told, NONE)

    def test_a_long_name(self):
        name = "t" + "/0.1/2.3" * 50
        for rule in [("in", 0, name, NONE, NONE), ("same", name, 5, NONE, NONE), ("below", name + "/0=0", 5, NONE, NONE),
                     ("row", (name,), (name + "/1=2",))]:
            self.assertEqual(parse_rule(rule_text(rule)), rule)


class ParseTest(unittest.TestCase):

    def refuses(self, text, row):
        with self.assertRaises(InvalidText) as caught:
            parse_rule(text)
        self.assertEqual(caught.exception.row, row, text)

    def refuses_row(self, *rows):
        """See that no text has these rows at its beginning, nor deeper."""
        for row in rows:
            self.refuses(row, 0)
            self.refuses(f"in 0 t\n  {row}", 1)
            self.refuses(f"in 0 t\n  none\nelse\n  {row}\n  none", 3)

    def takes_row(self, *rows):
        for row in rows:
            rest = "" if row.split(" ")[0] in ("row", "none", "never") else "\n  none\nelse\n  never"
            self.assertEqual(rule_text(parse_rule(row + rest)), row + rest)

    def test_empty_and_short_texts(self):
        self.refuses("", 0)
        self.refuses("\n", 0)
        rows = TEXT.split("\n")
        for many in range(1, len(rows)):
            self.refuses("\n".join(rows[:many]), many)

    def test_too_many_rows(self):
        for more in ("", "none", "else", "  none", "in 0 t", "never"):
            self.refuses("none\n" + more, 1)
            self.refuses(TEXT + "\n" + more, 10)
        self.refuses("none\n\nnone", 1)

    def test_words(self):
        self.refuses_row("some", "None", "nones", "in", "in 0", "in t", "in 0 t t", "is", "is t", "is 1 2", "same", "same t",
                         "same t/0.1", "same t/0.1 1 2", "below", "below t/0=0", "below t/0=0 1 2", "row", "row t", "row |",
                         "row | t", "row t || 1", "row t |1", "never 1", "none 1", "else", "in t 0", "same 1 t/0.1",
                         "below 1 t/0=0", "rows t |", "row t | |", "row t | 1 |")

    def test_spaces(self):
        for row in ["none", "in 0 t", "is 1", "same t/0.1 1", "below t/0=0 1", "row t t/0.1 | 1", "row t |"]:
            self.refuses_row(" " + row, row + " ", "  " + row, "\t" + row, row + "\r")
            if " " in row:
                self.refuses_row(row.replace(" ", "  ", 1), row.replace(" ", "\t", 1), row.replace(" ", "", 1))
        self.refuses_row("row t | ", "row t  |", "row  | 1")

    def test_indents(self):
        rows = TEXT.split("\n")
        for number, row in enumerate(rows):
            for spoilt_row in (" " + row, "  " + row, row[1:], row[2:] if row.startswith("  ") else " " + row):
                if spoilt_row != row:
                    self.refuses("\n".join(rows[:number] + [spoilt_row] + rows[number + 1:]), number)

    def test_each_row_spoilt(self):
        rows = TEXT.split("\n")
        for number, row in enumerate(rows):
            self.refuses("\n".join(rows[:number] + [row + "x"] + rows[number + 1:]), number)
            self.refuses("\n".join(rows[:number] + [""] + rows[number:]), number)

    def test_else(self):
        for row in ("none", "els", "Else", "else ", " else", "  else", "else:", "else in 0 t", ""):
            self.refuses(f"in 0 t\n  none\n{row}\n  none", 2)
        self.refuses("in 0 t\nelse\n  none", 1)
        self.refuses("else", 0)
        self.refuses("in 0 t\n  in 0 t\n    none\nelse\n  none", 3)

    def test_names_of_rows(self):
        good = ["t", "a:0", "abcdefgh:1000000", "t/0.1", "t/2.3", "a:5/1.2/0.3/2.1", "t:5", "t:0/0.1"]
        bad = ["", "a", "T", "t:", ":5", "a:", "a:-1", "a:-0", "a:01", "a:1000001", "a:1 ", "abcdefghi:1", "A:1", "a1:1", "a:b",
               "a:1:2", "t/", "t//0.1", "/0.1", "t/0", "t/0.", "t/.1", "t/0.0", "t/0.4", "t/3.1", "t/00.1", "t/0.01", "t/-0.1",
               "t/0.1.1", "t/0=0", "t/0.1/0=0", "t.0.1", "t/0,1", "\xe4:1", "a:\u0661", "t/\u0660.1", "t/0.\u0661", "t/0.1/"]
        self.takes_row(*[f"in 0 {name}" for name in good], *[f"row t {name} |" for name in good])
        self.takes_row(*[f"same {name} 5" for name in good if "/" in name])
        self.refuses_row(*[f"in 0 {name}" for name in bad], *[f"row t {name} |" for name in bad],
                         *[f"same {name} 5" for name in bad + [name for name in good if "/" not in name]])

    def test_names_of_values(self):
        good = ["t/0=0", "t/2=7", "a:5/1=3", "t/0.1/2=0", "a:0/2.3/1.1/0=7"]
        bad = ["t", "t=0", "t/0.1", "t/3=0", "t/0=8", "t/0=-1", "t/0=00", "t/00=0", "t/=0", "t/0=", "t/0=0/0.1", "t/0=0/0=0",
               "t/0.4/0=0", "t/0.0/0=0", "/0=0", "a/0=0", "a:1000001/0=0", "t/0==0", "t/0=\u0661", "0=0", "t//0=0"]
        self.takes_row(*[f"below {name} 5" for name in good], *[f"row t | {name}" for name in good])
        self.refuses_row(*[f"below {name} 5" for name in bad], *[f"row t | {name}" for name in bad])

    def test_integers(self):
        for form, low, high in [("is {}", 0, 10 ** 6), ("in {} t", 0, 2), ("same t/0.1 {}", 0, 10 ** 6),
                                ("below t/0=0 {}", -1000, 1001), ("row t | {}", -10 ** 6, 10 ** 6)]:
            self.takes_row(form.format(low), form.format(high), form.format(1))
            for word in [low - 1, high + 1, "01", "-0", "+1", "1.", "1_0", "", "-", "x", "\u0661", "00", 10 ** 30]:
                self.refuses_row(form.format(word))

    def test_leaves(self):
        for many in range(7):
            row = "row" + " t" * many + " |"
            self.takes_row(row) if 1 <= many <= 4 else self.refuses_row(row)
        for many in range(11):
            row = "row t |" + " 1" * many
            self.takes_row(row) if many <= 8 else self.refuses_row(row)
        # Names that may not stand in a rule have the form nonetheless.
        self.takes_row("row a:5 |", "row t/0.1 | t/1=0", "row t t t t | t/2=7")

    def test_what_is_read_is_not_the_views(self):
        parse_rule("same nothere:5/0.3 6\n  below t/0.1/2.2/1=7 0\n    never\n  else\n    row b:1 |\nelse\n  none")


class IsRuleTest(unittest.TestCase):

    CHANGES = [("insert", "shop", (5, 1, 3)), ("set", "region", (4, 1), (4, 2))]
    VIEW = View.parse(SHOPS, "view shop\n  follow place\n    shown size")
    ROW = ("row", ("t", "region:3"), (7,))

    def check(self, value, expected, views=(PLACES, REGIONS), changes=None, view=None):
        given = [list(views), self.CHANGES if changes is None else changes, view or self.VIEW]
        self.assertIs(is_rule(*given, value), expected, value)
        if changes is None and view is None and views == (PLACES, REGIONS):
            # Also as a part of a rule.
            self.assertIs(is_rule(*given, ("is", 5, value, NONE)), expected, value)
            self.assertIs(is_rule(*given, ("in", 1, "region:3", NONE, value)), expected, value)

    def test_example(self):
        self.assertIs(is_rule([PLACES, REGIONS], [], SMALL, RULE), True)
        self.assertIs(is_rule(value=RULE, view=SMALL, changes=(), views=[PLACES, REGIONS]), True)

    def test_leaves(self):
        for leaf in (NONE, NEVER, self.ROW, ("row", ("t", "region:4"), (-10 ** 6,)), ("row", ("t", "region:3"), (10 ** 6,))):
            self.check(leaf, True)
        for leaf in [(), ("none", 1), ("never", None), ("row",), ("row", ("t", "region:3")), self.ROW + (1,), ["none"], "none",
                     ("None",), (None,), (("none",),), ("some",), ("none", ()), ("row", ["t", "region:3"], (7,)),
                     ("row", ("t", "region:3"), [7]), ("row", ("t",), (7,)), ("row", ("t", "region:3", "region:3"), (7,)),
                     ("row", ("t", "region:3"), ()), ("row", ("t", "region:3"), (7, 7)), ("row", ("region:3", "t"), (7,)),
                     ("row", ("shop:5", "region:3"), (7,)), ("row", ("t", "t"), (7,)), ("row", ("t", "shop:5"), (7,)),
                     ("row", ("t", "region:5"), (7,)), ("row", ("t", "region:03"), (7,)), ("row", ("t", "region:1"), (7,)),
                     ("row", ("t", 3), (7,)), ("row", ("t", None), (7,)), ("row", ("t", ["region:3"]), (7,)),
                     ("row", ("t", "region:3"), (True,)), ("row", ("t", "region:3"), (None,)), ("row", ("t", "region:3"), ("7",)),
                     ("row", ("t", "region:3"), (10 ** 6 + 1,)), ("row", ("t", "region:3"), (-10 ** 6 - 1,)),
                     ("row", ("t", "region:3"), ([7],)), ("row", ("t", "region:3"), ("t/0=0",)), ("row", "t", (7,)),
                     ("row", ("t", "t/0.1"), (7,)), ("row", ("t", "region:3"), ("region:3/1=0",))]:
            self.check(leaf, False)

    def test_ids(self):
        for key, expected in [(5, True), (3, False), (4, False), (6, False), (True, False), (5.0, False), ("5", False),
                              (None, False), (-5, False), ((5,), False), ([5], False)]:
            self.check(("is", key, NONE, NONE), expected)
        # Of rows of the root's table that changes name, old or new, alone.
        self.check(("is", 4, NONE, NONE), True, view=REGIONS)
        self.check(("is", 3, NONE, NONE), False, view=REGIONS)
        self.check(("is", 5, NONE, NONE), False, view=REGIONS)
        self.check(("is", 5, NONE, NONE), False, changes=[])

    def test_true_and_false_are_no_integers(self):
        changes = [("insert", "shop", (1, 1, 0)), ("set", "region", (0, 1), (0, 2))]
        for rule in (("is", 1, NONE, NONE), ("in", 0, "t", NONE, NONE), ("in", 1, "region:0", NONE, NONE)):
            self.check(rule, True, changes=changes)
        for rule in (("is", True, NONE, NONE), ("in", False, "t", NONE, NONE), ("in", True, "region:0", NONE, NONE),
                     ("in", 0, "t", ("same", "t/0.1", False, NONE, NONE), NONE),
                     ("in", 1, "region:0", ("below", "region:0/1=0", True, NONE, NONE), NONE)):
            self.check(rule, False, changes=changes)

    def test_questions_in(self):
        for number, row, expected in [
                (0, "t", True), (0, "shop:5", True), (1, "region:3", True), (1, "region:4", True), (2, "t", False), (-1, "t", False),
                (1, "t", False), (0, "region:3", False), (0, "region:4", False), (0, "shop:3", False), (0, "shop:6", False),
                (0, "t/0.1", False), (1, "t/0.1", False), (0, None, False), (0, 5, False), (0, ["t"], False), ("0", "t", False),
                (None, "t", False), (0, "", False), (0, "t/", False), (0, "shop:05", False), (0, "T", False), ([0], "t", False)]:
            self.check(("in", number, row, NONE, NONE), expected)
        self.check(("in", 0, "t", NONE, NONE), False, views=())
        self.check(("in", 0, "t", NONE, NONE), True, views=(PLACES,), changes=[])
        self.check(("in", 0, "shop:5", NONE, NONE), False, views=(PLACES,), changes=[])

    def test_where_names_may_stand(self):
        row = ("row", ("t", "t/0.1"), (7,))
        self.check(("in", 0, "t", row, NONE), True)
        self.check(("in", 0, "t", NONE, row), False)
        self.check(("in", 0, "shop:5", row, NONE), False)
        self.check(("in", 0, "t", ("is", 5, NONE, ("is", 5, row, NONE)), NONE), True)
        # In the yes part of an outer question, though in the no part of an inner one.
        self.check(("in", 0, "t", ("in", 0, "t", NONE, row), NONE), True)
        self.check(("in", 0, "t", ("in", 0, "t", row, NONE), row), False)
        self.check(("in", 0, "t", ("in", 0, "shop:5", row, row), NONE), True)
        self.check(("in", 0, "t", ("in", 1, "t/0.1", ("row", ("t", "t/0.1"), ("t/0.1/1=0",)), row), NONE), True)
        self.check(("in", 0, "t", ("in", 1, "t/0.1", NONE, ("row", ("t", "t/0.1"), ("t/0.1/1=0",))), NONE), False)
        self.check(("in", 0, "t", ("in", 1, "t/0.1", ("row", ("t", "t/0.1"), ("region:3/1=0",)), NONE), NONE), False)
        self.check(("in", 1, "region:3", ("row", ("t", "region:3"), ("region:3/1=0",)), NONE), True)
        self.check(("in", 1, "region:3", ("row", ("t", "region:3"), ("region:4/1=0",)), NONE), False)
        self.check(("is", 5, ("in", 0, "t", NONE, NONE), row), False)

    def test_numbers_of_nodes_and_values(self):
        for name in ("t/0.0", "t/0.2", "t/0.3", "t/1.1", "t/2.1", "t/0.1/0.1", "t/0.01", "t/0,1", "t/0.1 "):
            self.check(("in", 0, "t", ("row", ("t", name), (7,)), NONE), False)
        for name in ("t/0=0", "region:3/1=1", "region:3/0=0", "region:3/1=-1", "region:3/1=00", "region:3", "t"):
            self.check(("in", 0, "t", ("in", 1, "region:3", ("below", name, 5, NONE, NONE), NONE), NONE), False)

    def test_questions_same(self):
        for name, key, expected in [
                ("t/0.1", 4, True), ("t/0.1", 3, False), ("t/0.1", 5, False), ("t", 5, False), ("shop:5", 5, False),
                ("region:4", 4, False), ("t/0.1", "4", False), ("t/0.1", None, False), ("t/1.1", 4, False), (None, 4, False),
                (["t/0.1"], 4, False), (0, 4, False), ("shop:5/0.1", 4, False)]:
            self.check(("in", 0, "t", ("same", name, key, NONE, NONE), NONE), expected)
        self.check(("in", 0, "shop:5", ("same", "shop:5/0.1", 4, NONE, NONE), NONE), True)
        self.check(("same", "t/0.1", 4, NONE, NONE), False)

    def test_questions_below(self):
        for end, expected in [(-1000, True), (1001, True), (0, True), (-1001, False), (1002, False), ("0", False), (None, False),
                              (True, False), ((0,), False)]:
            self.check(("in", 1, "region:3", ("below", "region:3/1=0", end, NONE, NONE), NONE), expected)
        for name in (None, 0, ["region:3/1=0"], ("region:3/1=0",), "region:3", ""):
            self.check(("in", 1, "region:3", ("below", name, 0, NONE, NONE), NONE), False)
        self.check(("below", "region:3/1=0", 0, NONE, NONE), False)

    def test_forms_of_questions(self):
        for rule in [("is", 5, NONE), ("is", 5, NONE, NONE, NONE), ("is",), ("is", 5), ("in", 0, "t", NONE), ("in", "t", 0, NONE, NONE),
                     ("in", 0, "t", NONE, NONE, NONE), ["is", 5, NONE, NONE], ("is", 5, None, NONE), ("is", 5, NONE, None),
                     ("is", 5, "none", NONE), ("is", 5, NONE, ["none"]), ("Is", 5, NONE, NONE), (5, "is", NONE, NONE),
                     ("is", 5, (NONE,), NONE), ("is", 5, (), NONE), (["is"], 5, NONE, NONE), ("not", 5, NONE, NONE)]:
            self.check(rule, False)

    def test_ids_that_only_lead(self):
        # An id to which a reference of a row of a change leads is told, but not named.
        changes = [("set", "shop", (5, 1, 3), (5, 1, 8)), ("delete", "shop", (6, 0, 9))]
        for key in (3, 8, 9):
            self.check(("row", ("t", f"region:{key}"), (1,)), True, changes=changes)
            self.check(("in", 1, f"region:{key}", NONE, NONE), True, changes=changes)
            self.check(("in", 0, "t", ("same", "t/0.1", key, NONE, NONE), NONE), False, changes=changes)
        self.check(("row", ("t", "region:5"), (1,)), False, changes=changes)
        for key in (5, 6):
            self.check(("is", key, NONE, NONE), True, changes=changes)
            self.check(("in", 0, f"shop:{key}", NONE, NONE), True, changes=changes)

    def test_any_value(self):
        bases = [Base(SHOPS), Base(Schema.parse("table a"))]
        values = ANY_VALUES + bases + [tuple(bases), nested(NONE, 49)[0], nested(NONE, 50)[1]]
        for value in values:
            self.check(value, value == NONE)
            is_integer = isinstance(value, int) and not isinstance(value, bool)
            for rule, good in [
                    (("is", value, NONE, NONE), is_integer and value == 5), (("is", 5, value, NONE), value == NONE),
                    (("is", 5, NONE, value), value == NONE), (("in", value, "t", NONE, NONE), is_integer and value == 0),
                    (("in", 0, value, NONE, NONE), False), (("in", 0, "t", ("same", value, 4, NONE, NONE), NONE), False),
                    (("in", 0, "t", ("same", "t/0.1", value, NONE, NONE), NONE), False), (("row", value, (7,)), False),
                    (("row", ("t", value), (7,)), False), (("row", ("t", "region:3"), value), False),
                    (("row", ("t", "region:3"), (value,)), is_integer and abs(value) <= 10 ** 6),
                    ((value, 5, NONE, NONE), False), ((value,), False)]:
                self.assertIs(is_rule([PLACES, REGIONS], self.CHANGES, self.VIEW, rule), good, rule)

    def test_the_depth_is_not_looked_at(self):
        for many in (99, 100, 101, 150):
            rule = ("in", 1, "region:3", chained(many, ("below", "region:3/1=0", 7)), NONE)
            self.assertIs(is_rule([PLACES, REGIONS], self.CHANGES, self.VIEW, rule), True)
            rule = chained(many, ("in", 0, "t"))
            self.assertIs(is_rule([PLACES, REGIONS], self.CHANGES, self.VIEW, rule), True)
            rule = chained(many, ("is", 6))
            self.assertIs(is_rule([PLACES, REGIONS], self.CHANGES, self.VIEW, rule), False)

    def test_drawn_rules(self):
        for seed in range(400):
            chance = random.Random(seed)
            _, views, view, changes = any_rule_case(chance)
            rule = any_tree(chance, Names(views, changes, view), [15])
            given = copy.deepcopy([changes, rule])
            self.assertIs(is_rule(views, changes, view, rule), True, seed)
            self.assertEqual([changes, rule], given)
            for tree in trees_of(rule):
                # A tree deeper down is a rule if no name in it stands outside of its yes part.
                self.assertIs(is_rule(views, changes, view, tree), stands(tree, Names(views, changes, view)), (seed, tree))


def stands(tree, names):
    """Return whether all names of a tree may stand where they do."""
    if tree[0] in QUESTIONS:
        inside = names.inside(*tree[1:3]) if tree[0] == "in" else names
        told = {"is": [], "in": tree[2:3], "same": tree[1:2], "below": tree[1:2]}[tree[0]]
        fits = all(name in names.rows or name in names.values for name in told)
        return fits and stands(tree[-2], inside) and stands(tree[-1], names)
    if tree[0] != "row":
        return True
    return all(name in names.rows for name in tree[1]) and all(
        isinstance(part, int) or part in names.values for part in tree[2])


class RunTest(unittest.TestCase):

    def test_example(self):
        self.assertEqual(told_contents([PLACES, REGIONS], KEPT, [], SMALL, RULE), {6: ((6, 4), ())})
        told = {key: run_rule([PLACES, REGIONS], KEPT, RULE, key) for key in range(10)}
        self.assertEqual({key: row for key, row in told.items() if row}, {6: ((6, 4), ())})
        self.assertIsNone(run_rule(key=5, rule=RULE, contents=KEPT, views=[PLACES, REGIONS]))
        self.assertEqual(told_contents(rule=RULE, view=SMALL, changes=(), contents=KEPT, views=[PLACES, REGIONS]), {6: ((6, 4), ())})

    def test_leaves(self):
        for rule in (NONE, NEVER):
            self.assertIsNone(run_rule([], [], rule, 5))
            self.assertEqual(told_contents([PLACES], [{5: ((5, 3), ())}], [], SMALL, rule), {})
        self.assertEqual(run_rule([], [], ("row", ("t", "a:7", "b:8"), (1, -10 ** 6)), 10 ** 6), ((10 ** 6, 7, 8), (1, -10 ** 6)))

    def test_questions(self):
        def run(question, key=5, kept=KEPT):
            return run_rule([PLACES, REGIONS], kept, question + (("row", ("t",), (1,)), ("row", ("t",), (0,))), key)[1][0]

        self.assertEqual([run(("is", 5)), run(("is", 5), 6)], [1, 0])
        self.assertEqual([run(("in", 0, "t")), run(("in", 0, "t"), 7), run(("in", 1, "region:3")), run(("in", 1, "region:5"))],
                         [1, 0, 1, 0])
        self.assertEqual([run(("same", "t/0.1", 3)), run(("same", "t/0.1", 4)), run(("same", "shop:6/0.1", 4))], [1, 0, 1])
        self.assertEqual([run(("below", "region:3/1=0", 12)), run(("below", "region:3/1=0", 13)),
                          run(("below", "t/0.1/1=0", 12)), run(("below", "t/0.1/1=0", 12), 6)], [0, 1, 0, 1])

    def test_names_of_two_steps(self):
        schema = Schema.parse("table a\n  plain p\ntable b\n  plain p\n  ref r a\ntable c\n  plain p\n  ref r b\n  ref s b")
        views = [View.parse(schema, text) for text in (
            "view c\n  follow r\n  follow s", "view b\n  shown p\n  follow r", "view a\n  shown p")]
        base = Base(schema, [("a", (1, 10)), ("a", (2, 20)), ("b", (3, 30, 1)), ("b", (4, 40, 2)), ("c", (9, 0, 3, 4))])
        kept = [contents(view, base) for view in views]
        view = View.parse(schema, "view c\n  follow r\n    shown p\n    follow r\n      shown p\n  follow s")
        leaf = ("row", ("t", "t/0.1", "t/0.1/1.1", "t/0.2"), ("t/0.1/1=0", "t/0.2/1.1/2=0"))
        rule = ("in", 0, "t", ("in", 1, "t/0.1", ("in", 1, "t/0.2", ("in", 2, "t/0.2/1.1", leaf, NEVER), NEVER), NEVER), NONE)
        self.assertIs(is_rule(views, [], view, rule), True)
        self.assertEqual(run_rule(views, kept, rule, 9), ((9, 3, 1, 4), (30, 20)))
        self.assertIsNone(run_rule(views, kept, rule, 8))
        self.assertEqual(told_contents(views, kept, [], view, rule), {9: ((9, 3, 1, 4), (30, 20))})

    def test_told_ids(self):
        # Those that changes name in the root's table, and those that views with this table show, and no others.
        changes = [("insert", "shop", (8, 1, 3)), ("delete", "shop", (5, 1, 3)), ("insert", "region", (7, 1))]
        rule = ("row", ("t",), ())
        view = View.parse(SHOPS, "view shop")
        self.assertEqual(told_contents([PLACES, REGIONS], KEPT, changes, view, rule), {key: ((key,), ()) for key in (5, 6, 8)})
        self.assertEqual(told_contents([PLACES, REGIONS], KEPT, [], view, rule), {key: ((key,), ()) for key in (5, 6)})
        self.assertEqual(told_contents([REGIONS], KEPT[1:], changes, view, rule), {key: ((key,), ()) for key in (5, 8)})
        self.assertEqual(told_contents([], [], [], view, rule), {})
        rule = ("is", 5, NONE, ("is", 8, ("row", ("t",), ()), NEVER))
        self.assertEqual(told_contents([PLACES, REGIONS], KEPT, changes, view, rule), {8: ((8,), ())})

    def test_new_dicts(self):
        kept = copy.deepcopy(KEPT)
        told_contents([PLACES, REGIONS], kept, [], SMALL, RULE).clear()
        self.assertEqual(kept, KEPT)
        self.assertEqual(told_contents([PLACES, REGIONS], kept, [], SMALL, RULE), {6: ((6, 4), ())})

    def test_many_questions_behind_one_another(self):
        rule = ("in", 1, "region:3", chained(100, ("below", "region:3/1=0", 13)), NEVER)
        self.assertIsNone(run_rule([PLACES, REGIONS], KEPT, rule, 5))
        rule = ("row", ("t",), ())
        for _ in range(100):
            rule = ("in", 0, "t", rule, NEVER)
        self.assertEqual(run_rule([PLACES, REGIONS], KEPT, rule, 5), ((5,), ()))

    def test_drawn_rules(self):
        many = 0
        for seed in range(400):
            chance = random.Random(seed)
            base, views, view, changes = any_rule_case(chance)
            kept = [contents(each, base) for each in views]
            rule = any_tree(chance, Names(views, changes, view), [15])
            told = {key: walked(kept, rule, key) for key in range(6)}
            self.assertEqual({key: run_rule(views, kept, rule, key) for key in told}, told)
            table = view.nodes[0][2]
            keys = {change[2][0] for change in changes if change[1] == table}
            keys |= {key for each, rows in zip(views, kept) if each.nodes[0][2] == table for key in rows}
            expected = {key: told[key] for key in keys if told[key] is not None}
            self.assertEqual(told_contents(views, kept, changes, view, rule), expected)
            many += len(expected)
        self.assertGreater(many, 100)


class HelpersTest(unittest.TestCase):

    def test_the_makers_of_these_tests(self):
        self.assertEqual(told_names(SHOPS, [("set", "shop", (5, 1, 3), (5, 1, 4)), ("insert", "region", (4, 1))]),
                         {"region:3": ("region", False), "region:4": ("region", True), "shop:5": ("shop", True)})
        words, spoils = set(), 0
        for seed in range(200):
            chance = random.Random(seed)
            _, views, view, changes = any_rule_case(chance)
            rule = any_tree(chance, Names(views, changes, view), [15])
            words |= {tree[0] for tree in trees_of(rule)}
            spoils += spoilt(chance, views, changes, view, rule) is not None
        self.assertEqual(words, {"is", "in", "same", "below", "none", "never", "row"})
        self.assertGreater(spoils, 60)


if __name__ == "__main__":
    unittest.main()
