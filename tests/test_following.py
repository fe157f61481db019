"""Points 10 and 12: new contents from the old ones, and keepers."""

import random
import unittest

from makers import BIG, PLACES, REGIONS, SHOPS, any_base, any_batch, any_case, any_view
from onlyviews.bases import Base
from onlyviews.deciding import can_follow
from onlyviews.errors import NotFollowed, ViewError
from onlyviews.following import Keeper, followed
from onlyviews.schemas import Schema
from onlyviews.views import View, contents
from oracle import made, shown_by, tables_of

PAIR = Schema.parse("table a\n  plain p\n  plain q\ntable b\n  plain p\n  ref r a\n  ref s a")


def kept(views, tables):
    return [shown_by(view, tables) for view in views]


def turned(chance, told):
    """Return contents with their ids in another order."""
    found = []
    for rows in told:
        keys = list(rows)
        chance.shuffle(keys)
        found.append({key: rows[key] for key in keys})
    return found


class FollowedTest(unittest.TestCase):

    def refused(self, views, told, changes):
        with self.assertRaises(NotFollowed) as caught:
            followed(views, told, changes)
        self.assertIsInstance(caught.exception, ViewError)
        return caught.exception.index

    def test_example(self):
        told = followed([BIG, REGIONS], [{}, {3: ((3,), (12,))}], [("insert", "shop", (5, 1, 3))])
        self.assertEqual(told, [{5: ((5, 3), (12,))}, {3: ((3,), (12,))}])

    def test_the_first_view_that_cannot_be_followed(self):
        changes = [("insert", "shop", (5, 1, 3))]
        plain = View.parse(SHOPS, "view shop\n  shown open")
        self.assertEqual(self.refused([BIG], [{}], changes), 0)
        self.assertEqual(self.refused([plain, BIG], [{}, {}], changes), 1)
        self.assertEqual(self.refused([PLACES, plain, BIG], [{}, {}, {}], changes), 2)
        self.assertEqual(self.refused([plain, BIG, BIG], [{}, {}, {}], changes), 1)

    def test_no_views_and_no_changes(self):
        self.assertEqual(followed([], [], [("insert", "shop", (5, 1, 3))]), [])
        self.assertEqual(followed([BIG], [{5: ((5, 3), (12,))}], []), [{5: ((5, 3), (12,))}])

    def test_rows_that_come_in_and_go_out(self):
        told = [{}, {5: ((5, 3), ()), 6: ((6, 3), ()), 7: ((7, 4), ())}]
        inside = followed([BIG, PLACES], told, [("set", "region", (3, 1), (3, 10))])
        self.assertEqual(inside, [{5: ((5, 3), (10,)), 6: ((6, 3), (10,))}, told[1]])
        self.assertEqual(followed([BIG, PLACES], inside, [("set", "region", (3, 10), (3, 99))])[0],
                         {5: ((5, 3), (99,)), 6: ((6, 3), (99,))})
        self.assertEqual(followed([BIG, PLACES], inside, [("set", "region", (3, 10), (3, 9))]), told)
        self.assertEqual(followed([BIG, PLACES], inside, [("delete", "shop", (5, 1, 3))]),
                         [{6: ((6, 3), (10,))}, {6: ((6, 3), ()), 7: ((7, 4), ())}])

    def test_what_views_lack_tells_something(self):
        # That region 4 is of size 5 is told by one view that has it, and one that lacks it.
        views = [View.parse(SHOPS, text) for text in (
            "view shop\n  follow place\n    shown size\n    range size 5 5", "view region\n  range size 5 -",
            "view region\n  range size 6 -")]
        told = [{}, {3: ((3,), ()), 4: ((4,), ())}, {3: ((3,), ())}]
        changes = [("insert", "shop", (key, 0, key)) for key in (2, 3, 4)]
        self.assertEqual(followed(views, told, changes)[0], {4: ((4, 4), (5,))})

    def test_told_by_a_row_at_another_node(self):
        # A shop that is open, but lacks in a view of open shops in small regions, tells that its region is large.
        views = [View.parse(SHOPS, "view shop\n  shown open\n  follow place"),
                 View.parse(SHOPS, "view shop\n  range open 1 -\n  follow place\n    range size - 9"),
                 View.parse(SHOPS, "view shop\n  range open 0 0\n  follow place\n    range size 10 -")]
        told = [{5: ((5, 3), (1,))}, {}, {}]
        changes = [("set", "shop", (5, 1, 3), (5, 0, 3))]
        self.assertEqual(followed(views, told, changes), [{5: ((5, 3), (0,))}, {}, {5: ((5, 3), ())}])
        told = [{5: ((5, 3), (1,))}, {5: ((5, 3), ())}, {}]
        self.assertEqual(followed(views, told, changes), [{5: ((5, 3), (0,))}, {}, {}])

    def test_beside_changed_bases(self):
        answers = {True: 0, False: 0}
        for seed in range(900):
            chance = random.Random(seed)
            base, views, changes = any_case(chance, 6, chance.choice([2, 4, 6]))
            before = kept(views, tables_of(base))
            could = [can_follow(views, changes, index) for index in range(len(views))]
            answers[all(could)] += 1
            if all(could):
                behind = kept(views, made(base.schema, tables_of(base), changes))
                self.assertEqual(followed(views, before, changes), behind, seed)
                self.assertEqual(followed(views, turned(chance, before), changes), behind, seed)
            else:
                self.assertEqual(self.refused(views, before, changes), could.index(False), seed)
        self.assertTrue(min(answers.values()) > 50, answers)

    def test_alike_bases_one_after_the_other(self):
        views = [BIG, PLACES]
        first = Base(SHOPS, [("region", (3, 1)), ("region", (4, 12)), ("shop", (5, 1, 3)), ("shop", (6, 0, 4))])
        second = Base(SHOPS, [("region", (3, 9)), ("region", (4, 12)), ("region", (7, 8)), ("shop", (5, 0, 3)),
                              ("shop", (6, 1, 4))])
        changes = [("set", "region", (4, 12), (4, 13)), ("insert", "region", (9, 12)), ("insert", "shop", (0, 2, 9))]
        told = []
        for base in (first, second):
            before = [contents(view, base) for view in views]
            base.make(changes)
            told.append(followed(views, before, changes))
            self.assertEqual(told[-1], [contents(view, base) for view in views])
        self.assertEqual(told[0], told[1])

    def test_nothing_is_changed(self):
        views, told, changes = [BIG, REGIONS], [{}, {3: ((3,), (12,))}], [("insert", "shop", (5, 1, 3))]
        new = followed(views, told, changes)
        self.assertEqual(told, [{}, {3: ((3,), (12,))}])
        new[1].clear()
        new.clear()
        self.assertEqual([views, told, changes],
                         [[BIG, REGIONS], [{}, {3: ((3,), (12,))}], [("insert", "shop", (5, 1, 3))]])


class KeeperTest(unittest.TestCase):

    def test_example(self):
        keeper = Keeper([BIG])
        self.assertIs(keeper.tell([("insert", "region", (3, 20))]), True)
        self.assertIs(keeper.tell([("insert", "shop", (5, 1, 3))]), False)
        self.assertIs(keeper.tell([("set", "region", (3, 20), (3, 25))]), True)
        self.assertEqual([keeper.waiting(), keeper.contents(0)], [[], {5: ((5, 3), (25,))}])

    def test_while_something_waits(self):
        base = Base(SHOPS, [("region", (3, 20)), ("shop", (5, 1, 3))])
        keeper = Keeper([BIG], base)
        before = {5: ((5, 3), (20,))}
        changes = [("insert", "region", (4, 11)), ("insert", "shop", (6, 1, 4)), ("delete", "shop", (5, 1, 3))]
        self.assertTrue(keeper.tell(changes[:1]))
        self.assertFalse(keeper.tell(changes[1:2]))
        self.assertFalse(keeper.tell(changes[2:]))
        # Also a change that could be followed alone waits behind others, in the order told.
        self.assertEqual([keeper.waiting(), keeper.contents(0)], [changes[1:], before])
        self.assertFalse(keeper.tell([]))
        # What earlier batches told of region 4 plays no part, but a later change tells its size.
        self.assertTrue(keeper.tell([("set", "region", (4, 11), (4, 12))]))
        self.assertEqual([keeper.waiting(), keeper.contents(0)], [[], {6: ((6, 4), (12,))}])

    def test_without_and_with_a_base(self):
        self.assertEqual(Keeper([BIG, PLACES]).contents(1), {})
        base = Base(SHOPS, [("region", (3, 20)), ("shop", (5, 1, 3))])
        keeper = Keeper(views=[BIG, PLACES], base=base)
        base.make([("delete", "shop", (5, 1, 3))])
        self.assertEqual([keeper.contents(0), keeper.contents(index=1)], [{5: ((5, 3), (20,))}, {5: ((5, 3), ())}])
        keeper = Keeper([])
        self.assertIs(keeper.tell([("insert", "region", (3, 1))]), True)
        self.assertEqual(keeper.waiting(), [])

    def test_forks_that_go_another_way(self):
        keeper = Keeper([BIG], Base(SHOPS, [("region", (3, 20))]))
        insert = ("insert", "shop", (5, 1, 3))
        keeper.tell([insert])
        other = keeper.fork()
        self.assertIs(other.tell([("delete", "shop", (5, 1, 3))]), True)
        self.assertEqual([other.waiting(), keeper.waiting()], [[], [insert]])
        self.assertIs(keeper.tell([("set", "region", (3, 20), (3, 10))]), True)
        self.assertEqual([other.contents(0), keeper.contents(0)], [{}, {5: ((5, 3), (10,))}])
        other.tell([("insert", "region", (4, 10)), ("insert", "shop", (7, 1, 4))])
        self.assertEqual([other.contents(0), keeper.contents(0)], [{7: ((7, 4), (10,))}, {5: ((5, 3), (10,))}])

    def test_copies(self):
        views, changes = [BIG], [("insert", "shop", (5, 1, 3))]
        keeper = Keeper(views, Base(SHOPS, [("region", (3, 20))]))
        keeper.tell(changes)
        views.clear()
        changes.clear()
        keeper.waiting().clear()
        keeper.contents(0)[9] = ((9, 3), (20,))
        self.assertEqual([keeper.waiting(), keeper.contents(0)], [[("insert", "shop", (5, 1, 3))], {}])
        self.assertIs(keeper.tell([("set", "region", (3, 20), (3, 21))]), True)
        self.assertEqual(keeper.contents(0), {5: ((5, 3), (21,))})

    def test_lives_of_changes(self):
        waited = 0
        for seed in range(120):
            chance = random.Random(seed)
            base, views, _ = any_case(chance, 1)
            keeper = Keeper(views, base if seed % 3 else None)
            base = base if seed % 3 else Base(base.schema)
            before, waiting = kept(views, tables_of(base)), []
            for _ in range(15):
                changes = any_batch(chance, base, chance.randint(0, 2))
                if len(waiting) + len(changes) > 8:
                    break
                base.make(changes)
                waiting = waiting + changes
                can = all(can_follow(views, waiting, index) for index in range(len(views)))
                self.assertIs(keeper.tell(changes), can)
                if can:
                    before, waiting = kept(views, tables_of(base)), []
                waited += not can
                self.assertEqual([keeper.contents(index) for index in range(len(views))], before, seed)
                self.assertEqual(keeper.waiting(), waiting, seed)
        self.assertTrue(waited > 30)

    def test_nothing_waits_beside_full_copies(self):
        copies = [View.parse(PAIR, "view a\n  shown p\n  shown q"),
                  View.parse(PAIR, "view b\n  shown p\n  follow r\n  follow s")]
        for seed in range(60):
            chance = random.Random(seed)
            base = any_base(chance, PAIR)
            views = [any_view(chance, PAIR), *copies]
            keeper = Keeper(views, base)
            for _ in range(8):
                changes = any_batch(chance, base, chance.randint(1, 3))
                base.make(changes)
                self.assertIs(keeper.tell(changes), True)
                self.assertEqual([keeper.contents(index) for index in range(3)], kept(views, tables_of(base)))


if __name__ == "__main__":
    unittest.main()
