"""Point 14: keepers beside a base, which they look at by questions alone."""

import random
import unittest

from makers import BIG, PLACES, REGIONS, SHOPS, any_batch, any_case
from onlyviews.askers import Asker
from onlyviews.asking import candidates, fewest
from onlyviews.bases import Base
from onlyviews.errors import NotAllowed
from onlyviews.views import View
from oracle import made, shown_by, tables_of


class AskerTest(unittest.TestCase):

    def test_example(self):
        asker = Asker([BIG], Base(SHOPS, [("region", (3, 12))]))
        self.assertEqual(asker.tell([("insert", "shop", (5, 1, 3))]), [("below", "region", 3)])
        self.assertEqual(asker.tell([("delete", "shop", (5, 1, 3))]), [])
        self.assertEqual([asker.asked, asker.contents(0)], [1, {}])

    def test_batches_that_are_not_allowed(self):
        base = Base(SHOPS, [("region", (3, 12)), ("region", (4, 1)), ("shop", (5, 1, 3))])
        asker = Asker([BIG], base)
        asker.tell([("set", "region", (4, 1), (4, 10))])
        for ahead in range(3):
            changes = [("insert", "shop", (6, 1, 3)), ("insert", "shop", (7, 1, 4)), ("delete", "shop", (7, 1, 4))]
            changes.insert(ahead, ("delete", "region", (3, 12)))
            with self.assertRaises(NotAllowed) as caught:
                asker.tell(changes)
            self.assertEqual(caught.exception.index, ahead)
            self.assertEqual([asker.asked, asker.contents(0)], [1, {5: ((5, 3), (12,))}])
            self.assertEqual(asker.base(), Base(SHOPS, [("region", (3, 12)), ("region", (4, 10)), ("shop", (5, 1, 3))]))

    def test_no_question_twice(self):
        other = View.parse(SHOPS, "view shop\n  range open 1 -\n  follow place\n    shown size")
        asker = Asker([BIG, other], Base(SHOPS, [("region", (3, 12)), ("region", (4, 2))]))
        plain = View.parse(SHOPS, "view shop\n  range open - 0\n  follow place\n    shown size")
        self.assertEqual(asker.tell([("insert", "shop", (5, 1, 3))]), [("below", "region", 3)])
        self.assertEqual([asker.contents(0), asker.contents(1)], [{5: ((5, 3), (12,))}] * 2)
        asker = Asker([plain, other], Base(SHOPS, [("region", (3, 12)), ("region", (4, 2))]))
        changes = [("insert", "shop", (5, 1, 3)), ("insert", "shop", (6, 0, 4))]
        self.assertEqual(asker.tell(changes), [("below", "region", 4), ("below", "region", 3)])
        self.assertEqual(asker.asked, 2)
        # With another batch a question is asked anew.
        self.assertEqual(asker.tell([("insert", "shop", (7, 1, 3))]), [("below", "region", 3)])
        changes = [("insert", "shop", (8, 1, 4)), ("insert", "shop", (9, 0, 4))]
        self.assertEqual(asker.tell(changes), [("below", "region", 4)])
        self.assertEqual(asker.asked, 4)
        self.assertEqual(asker.contents(1), {5: ((5, 3), (12,)), 7: ((7, 3), (12,)), 8: ((8, 4), (2,))})

    def test_views_that_help_one_another(self):
        base = Base(SHOPS, [("region", (3, 12)), ("region", (4, 2)), ("shop", (5, 1, 4))])
        asker = Asker([BIG, REGIONS, PLACES], base)
        for changes in ([("insert", "shop", (6, 1, 3))], [("set", "region", (4, 2), (4, 10))], []):
            self.assertEqual(asker.tell(changes), [])
        self.assertEqual([asker.asked, asker.contents(0)], [0, {5: ((5, 4), (10,)), 6: ((6, 3), (12,))}])

    def test_no_views(self):
        asker = Asker([], Base(SHOPS))
        self.assertEqual(asker.tell([("insert", "region", (3, 1))]), [])
        self.assertEqual([asker.asked, asker.base()], [0, Base(SHOPS, [("region", (3, 1))])])

    def test_copies(self):
        base, views, changes = Base(SHOPS, [("region", (3, 12))]), [BIG], [("insert", "shop", (5, 1, 3))]
        asker = Asker(views, base)
        base.make([("delete", "region", (3, 12))])
        views.clear()
        asker.tell(changes).clear()
        self.assertEqual(changes, [("insert", "shop", (5, 1, 3))])
        asker.base().make([("delete", "shop", (5, 1, 3))])
        asker.contents(0).clear()
        self.assertEqual(asker.base(), Base(SHOPS, [("region", (3, 12)), ("shop", (5, 1, 3))]))
        self.assertEqual([asker.asked, asker.contents(0)], [1, {5: ((5, 3), (12,))}])

    def test_forks(self):
        asker = Asker([BIG], Base(SHOPS, [("region", (3, 12))]))
        asker.tell([("insert", "shop", (5, 1, 3))])
        other = asker.fork()
        self.assertEqual([other.asked, other.contents(0), other.base()], [1, {5: ((5, 3), (12,))}, asker.base()])
        other.tell([("insert", "shop", (6, 1, 3))])
        other.tell([("delete", "shop", (5, 1, 3))])
        asker.tell([("delete", "shop", (5, 1, 3))])
        self.assertEqual([other.asked, other.contents(0)], [2, {6: ((6, 3), (12,))}])
        self.assertEqual([asker.asked, asker.contents(0)], [1, {}])
        self.assertEqual(other.base(), Base(SHOPS, [("region", (3, 12)), ("shop", (6, 1, 3))]))
        self.assertEqual(asker.base(), Base(SHOPS, [("region", (3, 12))]))

    def test_lives_of_changes(self):
        many = 0
        for seed in range(150):
            chance = random.Random(seed)
            base, views, _ = any_case(chance, 1)
            asker = Asker(views, base)
            total = 0
            for _ in range(8):
                changes = any_batch(chance, base, chance.randint(0, 4))
                told = asker.tell(changes)
                base = Base(base.schema, [(table, row) for table, rows in made(
                    base.schema, tables_of(base), changes).items() for row in rows.values()])
                self.assertEqual(asker.base(), base)
                self.assertEqual([asker.contents(index) for index in range(len(views))],
                                 [shown_by(view, tables_of(base)) for view in views], seed)
                self.asked_in_order(views, changes, told)
                total += len(told)
                self.assertEqual(asker.asked, total)
            many += total
        self.assertTrue(many > 100)

    def asked_in_order(self, views, changes, told):
        """See that questions are candidates, each once, and no fewer than the views need."""
        self.assertEqual(len(told), len(set(told)))
        possible = [question for index in range(len(views)) for question in candidates(views, changes, index)]
        self.assertTrue(set(told) <= set(possible))
        needs = [len(fewest(views, changes, index)) for index in range(len(views))]
        self.assertTrue(max(needs) <= len(told) <= sum(needs))


if __name__ == "__main__":
    unittest.main()
