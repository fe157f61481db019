"""Point 3 and the section "The interface": names, arguments, and where each of them is defined."""

import importlib
import inspect
import unittest

from makers import BIG, PLACES, REGIONS, SHOPS
from onlyviews.alike import difference, ends, used
from onlyviews.answering import answered, can_answer, gap, is_gap
from onlyviews.askers import Asker
from onlyviews.asking import (answer, can_follow_with, candidates, doubt_with, fewest, followed_with, is_doubt_with)
from onlyviews.bases import Base, net
from onlyviews.console import Console
from onlyviews.deciding import can_follow, doubt, is_doubt
from onlyviews.following import Keeper, followed
from onlyviews.holders import Holder
from onlyviews.judging import is_right, wrong_spot
from onlyviews.kinds import hindrance, is_self_keeping, kinds, least_helpers
from onlyviews.making import make_rule
from onlyviews.reasons import are_reasons, reasons
from onlyviews.rules import is_rule, parse_rule, rule_text, run_rule, told_contents
from onlyviews.schemas import Schema, is_row
from onlyviews.sets import cheapest, core, superfluous, tells
from onlyviews.views import View, chain, contents

FUNCTIONS = {
    "schemas": ["is_row(schema, table, value)"],
    "bases": ["net(changes)"],
    "views": ["chain(view, base, key)", "contents(view, base)"],
    "alike": ["ends(views)", "used(views)", "difference(views, first, second)"],
    "deciding": ["can_follow(views, changes, index)", "doubt(views, changes, index)",
                 "is_doubt(views, changes, index, value)"],
    "following": ["followed(views, contents, changes)"],
    "kinds": ["kinds(schema)", "hindrance(views, index, kind)", "is_self_keeping(views, wanted)",
              "least_helpers(views, candidates, wanted)"],
    "asking": ["answer(base, question)", "candidates(views, changes, index)",
               "can_follow_with(views, changes, index, questions)", "doubt_with(views, changes, index, questions)",
               "is_doubt_with(views, changes, index, questions, value)", "fewest(views, changes, index)",
               "followed_with(views, contents, changes, answers)"],
    "answering": ["can_answer(views, view, changes=())", "gap(views, view, changes=())",
                  "is_gap(views, view, value, changes=())", "answered(views, contents, view, changes=())"],
    "sets": ["tells(first, second)", "superfluous(views)", "core(views)", "cheapest(candidates, costs, wanted)"],
    "rules": ["rule_text(rule)", "parse_rule(text)", "is_rule(views, changes, view, value)",
              "run_rule(views, contents, rule, key)", "told_contents(views, contents, changes, view, rule)"],
    "judging": ["is_right(views, changes, view, rule)", "wrong_spot(views, changes, view, rule)"],
    "making": ["make_rule(views, changes, view)"],
    "reasons": ["reasons(views, changes, view, rule)", "are_reasons(views, changes, view, rule, value)"],
}
CLASSES = {
    "schemas": {"Schema": ["parse(text)", "columns(self, table)", "__str__(self)", "__eq__(self, other)"]},
    "bases": {"Base": ["__init__(self, schema, rows=())", "rows(self, table)", "fork(self)", "make(self, changes)",
                       "is_allowed(self, changes)", "__eq__(self, other)"]},
    "views": {"View": ["parse(schema, text)", "__str__(self)", "__eq__(self, other)"]},
    "following": {"Keeper": ["__init__(self, views, base=None)", "tell(self, changes)", "waiting(self)",
                             "contents(self, index)", "fork(self)"]},
    "askers": {"Asker": ["__init__(self, views, base)", "tell(self, changes)", "contents(self, index)", "base(self)",
                         "fork(self)"]},
    "console": {"Console": ["__init__(self)", "answer(self, row)"]},
    "holders": {"Holder": ["__init__(self, views, base=None)", "contents(self, index)", "history(self)", "__len__(self)",
                           "offer(self, changes, view, rule, reasons)", "take(self, changes)",
                           "ask(self, view, changes=())", "forget(self, view, changes=())", "back(self, many)", "fork(self)"]},
}
FILES = sorted({*FUNCTIONS, *CLASSES})


class InterfaceTest(unittest.TestCase):

    def test_functions(self):
        for file in FUNCTIONS:
            module = importlib.import_module(f"onlyviews.{file}")
            for told in FUNCTIONS[file]:
                function = getattr(module, told.split("(")[0])
                self.assertEqual(function.__module__, module.__name__)
                self.assertEqual(f"{function.__name__}{inspect.signature(function)}", told)

    def test_classes(self):
        for file in CLASSES:
            module = importlib.import_module(f"onlyviews.{file}")
            for name, methods in CLASSES[file].items():
                own = getattr(module, name)
                self.assertEqual(own.__module__, module.__name__)
                for told in methods:
                    self.assertIn(told.split("(")[0], vars(own))
                    method = getattr(own, told.split("(")[0])
                    self.assertEqual(f"{method.__name__}{inspect.signature(method)}", told)
        self.assertIsInstance(vars(Asker)["asked"], property)

    def test_by_position_and_by_name(self):
        base = Base(SHOPS, [("region", (3, 12)), ("shop", (5, 1, 3))])
        changes, wanted = [("insert", "shop", (6, 1, 3))], [("insert", "shop")]
        views, told = [BIG, REGIONS], [contents(BIG, base), contents(REGIONS, base)]
        question = ("below", "region", 3)
        pair = doubt([BIG], changes, 0)
        rule = ("in", 0, "t", ("row", ("t", "t/0.1"), ("t/0=0",)), ("none",))
        for function, given in [
                (is_row, {"schema": SHOPS, "table": "shop", "value": (5, 1, 3)}), (Schema.parse, {"text": "table a"}),
                (SHOPS.columns, {"table": "shop"}), (Base, {"schema": SHOPS, "rows": [("region", (3, 12))]}),
                (base.rows, {"table": "shop"}), (base.is_allowed, {"changes": changes}), (net, {"changes": changes}),
                (View.parse, {"schema": SHOPS, "text": str(BIG)}), (chain, {"view": BIG, "base": base, "key": 5}),
                (contents, {"view": BIG, "base": base}), (ends, {"views": views}), (used, {"views": views}),
                (difference, {"views": views, "first": base, "second": Base(SHOPS)}),
                (can_follow, {"views": views, "changes": changes, "index": 0}),
                (doubt, {"views": views, "changes": changes, "index": 0}),
                (is_doubt, {"views": [BIG], "changes": changes, "index": 0, "value": pair}),
                (followed, {"views": views, "contents": told, "changes": changes}),
                (kinds, {"schema": SHOPS}), (hindrance, {"views": views, "index": 0, "kind": wanted[0]}),
                (is_self_keeping, {"views": views, "wanted": wanted}),
                (least_helpers, {"views": views[:1], "candidates": [PLACES, REGIONS], "wanted": wanted}),
                (answer, {"base": base, "question": question}),
                (candidates, {"views": views, "changes": changes, "index": 0}),
                (can_follow_with, {"views": [BIG], "changes": changes, "index": 0, "questions": [question]}),
                (doubt_with, {"views": [BIG], "changes": changes, "index": 0, "questions": [question]}),
                (is_doubt_with, {"views": [BIG], "changes": changes, "index": 0, "questions": [question], "value": pair}),
                (fewest, {"views": [BIG], "changes": changes, "index": 0}),
                (followed_with, {"views": [BIG], "contents": told[:1], "changes": changes,
                                 "answers": [(question, answer(base, question))]}),
                (can_answer, {"views": views, "view": PLACES, "changes": changes}),
                (gap, {"views": views, "view": PLACES, "changes": changes}),
                (is_gap, {"views": [PLACES], "view": REGIONS, "value": gap([PLACES], REGIONS), "changes": changes}),
                (answered, {"views": views, "contents": told, "view": BIG, "changes": changes}),
                (tells, {"first": views, "second": [BIG]}), (superfluous, {"views": views + [BIG]}),
                (core, {"views": views + [BIG]}), (cheapest, {"candidates": views, "costs": [1, 2], "wanted": [BIG]}),
                (rule_text, {"rule": rule}), (parse_rule, {"text": rule_text(rule)}),
                (is_rule, {"views": views, "changes": changes, "view": BIG, "value": rule}),
                (run_rule, {"views": views, "contents": told, "rule": rule, "key": 5}),
                (told_contents, {"views": views, "contents": told, "changes": changes, "view": BIG, "rule": rule}),
                (is_right, {"views": views, "changes": [], "view": BIG, "rule": rule}),
                (wrong_spot, {"views": views, "changes": changes, "view": BIG, "rule": rule}),
                (make_rule, {"views": views, "changes": changes, "view": BIG}),
                (reasons, {"views": views, "changes": [], "view": BIG, "rule": rule}),
                (are_reasons, {"views": views, "changes": [], "view": BIG, "rule": rule,
                               "value": reasons(views, [], BIG, rule)})]:
            self.assertEqual(function(*given.values()), function(**given), function.__name__)
            before = repr(list(given.values())[-1])
            function(**dict(reversed(list(given.items()))))
            self.assertEqual(repr(list(given.values())[-1]), before, function.__name__)

    def test_defaults(self):
        self.assertEqual([can_answer([BIG], BIG), gap([BIG], BIG), answered([BIG], [{}], BIG)], [True, None, {}])
        pair = (Base(SHOPS, [("region", (3, 12))]), Base(SHOPS))
        self.assertEqual([is_gap([BIG], REGIONS, pair), is_gap([BIG], REGIONS, pair, []), is_gap([REGIONS], BIG, pair)],
                         [True, True, False])

    def test_what_was_handed_in_may_be_changed(self):
        views, changes = [BIG, REGIONS], [("insert", "shop", (6, 1, 3))]
        kept = [{}, {3: ((3,), (12,))}]
        told = answered(views, kept, BIG, changes)
        kept.clear()
        views.clear()
        changes.clear()
        self.assertEqual(told, {6: ((6, 3), (12,))})

    def test_methods_by_name(self):
        base = Base(schema=SHOPS, rows=[("region", (3, 12))])
        self.assertIsNone(base.make(changes=[("insert", "shop", (5, 1, 3))]))
        keeper = Keeper(views=[BIG], base=base)
        self.assertIs(keeper.tell(changes=[("delete", "shop", (5, 1, 3))]), True)
        self.assertEqual(keeper.contents(index=0), {})
        self.assertEqual(Console().answer(row="schema\ntable a"), "ok")
        holder = Holder(base=base, views=[PLACES])
        rule = make_rule(view=PLACES, changes=[], views=[PLACES])
        shown = reasons(rule=rule, view=PLACES, changes=[], views=[PLACES])
        self.assertIsNone(holder.offer(reasons=shown, rule=rule, view=PLACES, changes=[]))
        self.assertIsNone(holder.take(changes=[]))
        self.assertEqual(holder.ask(changes=[], view=PLACES), holder.contents(index=0))
        self.assertIsNone(holder.back(many=1))
        self.assertIsNone(holder.forget(changes=[], view=PLACES))
        asker = Asker(views=[BIG], base=base)
        self.assertEqual(asker.tell(changes=[("delete", "shop", (5, 1, 3))]), [])
        self.assertEqual(asker.contents(index=0), {})


if __name__ == "__main__":
    unittest.main()
