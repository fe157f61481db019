"""Point 3 and the section "The interface": names, arguments, and where each of them is defined."""

import importlib
import inspect
import unittest

from makers import BIG, PLACES, REGIONS, SHOPS
from onlyviews.alike import difference, ends, used
from onlyviews.askers import Asker
from onlyviews.asking import (answer, can_follow_with, candidates, doubt_with, fewest, followed_with, is_doubt_with)
from onlyviews.bases import Base, net
from onlyviews.deciding import can_follow, doubt, is_doubt
from onlyviews.following import Keeper, followed
from onlyviews.kinds import hindrance, is_self_keeping, kinds, least_helpers
from onlyviews.schemas import Schema, is_row
from onlyviews.views import View, chain, contents

FUNCTIONS = {
    "schemas": ["is_row(schema, table, value)"],
    "bases": ["net(changes)"],
    "views": ["chain(view, base, key)", "contents(view, base)"],
    "alike": ["ends(views)", "used(views)", "difference(views, first, second)"],
    "deciding": ["can_follow(views, changes, index)", "doubt(views, changes, index)",
                 "is_doubt(views, changes, index, value)"],
    "following": ["followed(views, contents, changes)"],
    "kinds": ["kinds(schema)", "hindrance(views, index, kind)", "is_self_keeping(views, wanted)",
              "least_helpers(views, candidates, wanted)"],
    "asking": ["answer(base, question)", "candidates(views, changes, index)",
               "can_follow_with(views, changes, index, questions)", "doubt_with(views, changes, index, questions)",
               "is_doubt_with(views, changes, index, questions, value)", "fewest(views, changes, index)",
               "followed_with(views, contents, changes, answers)"],
}
CLASSES = {
    "schemas": {"Schema": ["parse(text)", "columns(self, table)", "__str__(self)", "__eq__(self, other)"]},
    "bases": {"Base": ["__init__(self, schema, rows=())", "rows(self, table)", "fork(self)", "make(self, changes)",
                       "is_allowed(self, changes)", "__eq__(self, other)"]},
    "views": {"View": ["parse(schema, text)", "__str__(self)", "__eq__(self, other)"]},
    "following": {"Keeper": ["__init__(self, views, base=None)", "tell(self, changes)", "waiting(self)",
                             "contents(self, index)", "fork(self)"]},
    "askers": {"Asker": ["__init__(self, views, base)", "tell(self, changes)", "contents(self, index)", "base(self)",
                         "fork(self)"]},
}
FILES = sorted({*FUNCTIONS, *CLASSES})


class InterfaceTest(unittest.TestCase):

    def test_functions(self):
        for file in FUNCTIONS:
            module = importlib.import_module(f"onlyviews.{file}")
            for told in FUNCTIONS[file]:
                function = getattr(module, told.split("(")[0])
                self.assertEqual(function.__module__, module.__name__)
                self.assertEqual(f"{function.__name__}{inspect.signature(function)}", told)

    def test_classes(self):
        for file in CLASSES:
            module = importlib.import_module(f"onlyviews.{file}")
            for name, methods in CLASSES[file].items():
                own = getattr(module, name)
                self.assertEqual(own.__module__, module.__name__)
                for told in methods:
                    self.assertIn(told.split("(")[0], vars(own))
                    method = getattr(own, told.split("(")[0])
                    self.assertEqual(f"{method.__name__}{inspect.signature(method)}", told)
        self.assertIsInstance(vars(Asker)["asked"], property)

    def test_by_position_and_by_name(self):
        base = Base(SHOPS, [("region", (3, 12)), ("shop", (5, 1, 3))])
        changes, wanted = [("insert", "shop", (6, 1, 3))], [("insert", "shop")]
        views, told = [BIG, REGIONS], [contents(BIG, base), contents(REGIONS, base)]
        question = ("below", "region", 3)
        pair = doubt([BIG], changes, 0)
        for function, given in [
                (is_row, {"schema": SHOPS, "table": "shop", "value": (5, 1, 3)}), (Schema.parse, {"text": "table a"}),
                (SHOPS.columns, {"table": "shop"}), (Base, {"schema": SHOPS, "rows": [("region", (3, 12))]}),
                (base.rows, {"table": "shop"}), (base.is_allowed, {"changes": changes}), (net, {"changes": changes}),
                (View.parse, {"schema": SHOPS, "text": str(BIG)}), (chain, {"view": BIG, "base": base, "key": 5}),
                (contents, {"view": BIG, "base": base}), (ends, {"views": views}), (used, {"views": views}),
                (difference, {"views": views, "first": base, "second": Base(SHOPS)}),
                (can_follow, {"views": views, "changes": changes, "index": 0}),
                (doubt, {"views": views, "changes": changes, "index": 0}),
                (is_doubt, {"views": [BIG], "changes": changes, "index": 0, "value": pair}),
                (followed, {"views": views, "contents": told, "changes": changes}),
                (kinds, {"schema": SHOPS}), (hindrance, {"views": views, "index": 0, "kind": wanted[0]}),
                (is_self_keeping, {"views": views, "wanted": wanted}),
                (least_helpers, {"views": views[:1], "candidates": [PLACES, REGIONS], "wanted": wanted}),
                (answer, {"base": base, "question": question}),
                (candidates, {"views": views, "changes": changes, "index": 0}),
                (can_follow_with, {"views": [BIG], "changes": changes, "index": 0, "questions": [question]}),
                (doubt_with, {"views": [BIG], "changes": changes, "index": 0, "questions": [question]}),
                (is_doubt_with, {"views": [BIG], "changes": changes, "index": 0, "questions": [question], "value": pair}),
                (fewest, {"views": [BIG], "changes": changes, "index": 0}),
                (followed_with, {"views": [BIG], "contents": told[:1], "changes": changes,
                                 "answers": [(question, answer(base, question))]})]:
            self.assertEqual(function(*given.values()), function(**given), function.__name__)
            before = repr(list(given.values())[-1])
            function(**dict(reversed(list(given.items()))))
            self.assertEqual(repr(list(given.values())[-1]), before, function.__name__)

    def test_methods_by_name(self):
        base = Base(schema=SHOPS, rows=[("region", (3, 12))])
        self.assertIsNone(base.make(changes=[("insert", "shop", (5, 1, 3))]))
        keeper = Keeper(views=[BIG], base=base)
        self.assertIs(keeper.tell(changes=[("delete", "shop", (5, 1, 3))]), True)
        self.assertEqual(keeper.contents(index=0), {})
        asker = Asker(views=[BIG], base=base)
        self.assertEqual(asker.tell(changes=[("delete", "shop", (5, 1, 3))]), [])
        self.assertEqual(asker.contents(index=0), {})


if __name__ == "__main__":
    unittest.main()
