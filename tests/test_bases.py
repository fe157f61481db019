"""Point 6: bases, changes, batches and net effects."""

import random
import unittest

from makers import SCHEMAS, SHOPS, any_base, any_batch, any_change
from onlyviews.bases import Base, net
from onlyviews.errors import NotAllowed
from onlyviews.schemas import Schema
from oracle import made, tables_of
from samples import ANY_VALUES

R3, R4, S5 = ("region", (3, 12)), ("region", (4, 2)), ("shop", (5, 1, 3))


class BaseTest(unittest.TestCase):

    def refused(self, base, changes):
        """Return the index with which make refuses a batch, having seen that nothing was made."""
        before = tables_of(base)
        self.assertIs(base.is_allowed(changes), False)
        with self.assertRaises(NotAllowed) as caught:
            base.make(changes)
        self.assertEqual(tables_of(base), before)
        return caught.exception.index

    def allows(self, base, changes):
        before = tables_of(base)
        self.assertIs(base.is_allowed(changes), True)
        self.assertEqual(tables_of(base), before)
        self.assertIsNone(base.make(changes))

    def test_examples(self):
        base = Base(SHOPS, [("region", (3, 12))])
        base.make([("insert", "shop", (5, 1, 3)), ("set", "shop", (5, 1, 3), (5, 0, 3))])
        self.assertEqual(base.rows("shop"), {5: (5, 0, 3)})
        self.assertIs(base.is_allowed([("delete", "region", (3, 12))]), False)
        self.assertEqual(net([("insert", "region", (4, 1)), ("set", "region", (4, 1), (4, 2))]),
                         {("region", 4): (None, (4, 2))})
        with self.assertRaises(NotAllowed) as caught:
            Base(SHOPS).make([("insert", "region", (3, 12)), ("insert", "shop", (5, 1, 4))])
        self.assertEqual(caught.exception.index, 1)

    def test_rows_in_any_order(self):
        base = Base(SHOPS, [S5, R4, R3])
        self.assertEqual(base.schema, SHOPS)
        self.assertEqual(base.rows("region"), {3: (3, 12), 4: (4, 2)})
        self.assertEqual(base.rows("shop"), {5: (5, 1, 3)})
        self.assertEqual(Base(SHOPS, (R3, S5)).rows("shop"), {5: (5, 1, 3)})
        self.assertEqual(Base(SHOPS).rows("region"), {})

    def test_inserts(self):
        base = Base(SHOPS, [R3])
        self.allows(base, [("insert", "shop", (3, 0, 3))])
        self.assertEqual(self.refused(base, [("insert", "region", (3, 12))]), 0)
        self.assertEqual(self.refused(base, [("insert", "region", (3, 13))]), 0)
        self.assertEqual(self.refused(base, [("insert", "shop", (4, 0, 4))]), 0)
        self.allows(base, [("insert", "region", (0, -10 ** 6)), ("insert", "shop", (10 ** 6, 10 ** 6, 0))])

    def test_deletes(self):
        base = Base(SHOPS, [R3, R4, S5])
        self.assertEqual(self.refused(base, [("delete", "region", (3, 12))]), 0)
        self.assertEqual(self.refused(base, [("delete", "region", (4, 3))]), 0)
        self.assertEqual(self.refused(base, [("delete", "region", (5, 3))]), 0)
        self.assertEqual(self.refused(base, [("delete", "region", (4, 2)), ("delete", "region", (4, 2))]), 1)
        self.allows(base, [("delete", "shop", (5, 1, 3)), ("delete", "region", (3, 12))])
        self.assertEqual(tables_of(base), {"region": {4: (4, 2)}, "shop": {}})

    def test_sets(self):
        base = Base(SHOPS, [R3, R4, S5])
        self.assertEqual(self.refused(base, [("set", "shop", (5, 0, 3), (5, 1, 3))]), 0)
        self.assertEqual(self.refused(base, [("set", "shop", (6, 1, 3), (6, 2, 3))]), 0)
        self.assertEqual(self.refused(base, [("set", "shop", (5, 1, 3), (5, 1, 5))]), 0)
        # A row that is referred to may be set.
        self.allows(base, [("set", "region", (3, 12), (3, 0)), ("set", "shop", (5, 1, 3), (5, 1, 4))])
        self.allows(base, [("set", "shop", (5, 1, 4), (5, 1, 4)), ("delete", "region", (3, 0))])
        self.assertEqual(tables_of(base), {"region": {4: (4, 2)}, "shop": {5: (5, 1, 4)}})

    def test_first_refused_change(self):
        base = Base(SHOPS, [R3])
        good, bad = ("insert", "region", (4, 1)), ("delete", "region", (9, 9))
        for ahead in range(7):
            changes = [good, ("delete", "region", (4, 1))] * 4
            changes[ahead] = bad
            self.assertEqual(self.refused(base, changes), ahead)
        self.allows(base, [])

    def test_as_told_plainly(self):
        for seed in range(300):
            chance = random.Random(seed)
            base = any_base(chance, chance.choice(SCHEMAS))
            changes = any_batch(chance, base, 6)
            if chance.random() < 0.5 and changes:
                changes.insert(chance.randrange(len(changes)), any_change(chance, any_base(chance, base.schema))
                               or changes[0])
            told = made(base.schema, tables_of(base), changes)
            if isinstance(told, int):
                self.assertEqual(self.refused(base, changes), told, seed)
            else:
                self.allows(base, changes)
                self.assertEqual(tables_of(base), told, seed)

    def test_forks(self):
        base = Base(SHOPS, [R3])
        other = base.fork()
        self.assertEqual(other, base)
        other.make([("insert", "region", (4, 2))])
        self.assertNotEqual(other, base)
        base.make([("delete", "region", (3, 12))])
        self.assertEqual([base.rows("region"), other.rows("region")], [{}, {3: (3, 12), 4: (4, 2)}])

    def test_equality(self):
        base = Base(SHOPS, [R3, R4, S5])
        self.assertEqual(base, Base(Schema.parse(str(SHOPS)), (S5, R4, R3)))
        self.assertNotEqual(base, Base(SHOPS, [R3, R4]))
        self.assertNotEqual(base, Base(SHOPS, [R3, R4, ("shop", (5, 1, 4))]))
        self.assertNotEqual(Base(SHOPS), Base(Schema.parse("table region\n  plain size")))
        for value in [*ANY_VALUES, tables_of(base), SHOPS]:
            self.assertFalse(base == value)
            self.assertTrue(base != value)

    def test_copies(self):
        rows, changes = [R3, S5], [("set", "region", (3, 12), (3, 13))]
        base = Base(SHOPS, rows)
        rows.append(R4)
        base.rows("region").clear()
        self.assertEqual(base.rows("region"), {3: (3, 12)})
        base.make(changes)
        self.assertEqual(changes, [("set", "region", (3, 12), (3, 13))])
        changes.clear()
        self.assertEqual(base.rows("region"), {3: (3, 13)})


class NetTest(unittest.TestCase):

    def test_rows_told_once(self):
        self.assertEqual(net([]), {})
        self.assertEqual(net([("insert", "shop", (5, 1, 3)), ("delete", "region", (5, 2))]),
                         {("shop", 5): (None, (5, 1, 3)), ("region", 5): ((5, 2), None)})
        self.assertEqual(net([("set", "region", (3, 1), (3, 2))]), {("region", 3): ((3, 1), (3, 2))})

    def test_rows_told_several_times(self):
        here, there, other = (3, 1), (3, 2), (3, 4)
        changes = [("set", "region", here, there), ("delete", "region", there), ("insert", "region", other)]
        self.assertEqual(net(changes), {("region", 3): (here, other)})
        self.assertEqual(net(changes[:2]), {("region", 3): (here, None)})

    def test_rows_that_end_as_they_began(self):
        here, there = (3, 1), (3, 2)
        self.assertEqual(net([("insert", "region", here), ("delete", "region", here)]), {})
        self.assertEqual(net([("delete", "region", here), ("insert", "region", here)]), {})
        self.assertEqual(net([("set", "region", here, there), ("set", "region", there, here)]), {})
        self.assertEqual(net([("set", "region", here, here)]), {})

    def test_new_dicts(self):
        changes = [("insert", "region", (3, 1))]
        net(changes).clear()
        self.assertEqual(net(changes), {("region", 3): (None, (3, 1))})

    def test_tells_the_rows_that_differ(self):
        for seed in range(200):
            chance = random.Random(seed)
            base = any_base(chance, chance.choice(SCHEMAS))
            changes = any_batch(chance, base, 8)
            later = base.fork()
            later.make(changes)
            told = {}
            for table in base.schema.tables:
                old, new = base.rows(table), later.rows(table)
                told.update({(table, key): (old.get(key), new.get(key)) for key in {**old, **new}
                             if old.get(key) != new.get(key)})
            self.assertEqual(net(changes), told)


if __name__ == "__main__":
    unittest.main()
