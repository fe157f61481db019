"""schemas.py: is_row (points 3 and 5)."""

import unittest

from onlyviews.schemas import Schema, is_row
from samples import ANY_VALUES, nested

MOST = 10 ** 6
SCHEMA = Schema.parse("table region\n  plain size\ntable shop\n  plain open\n  ref place region\ntable bare")
WIDE = Schema.parse("table a\ntable b\n  plain p\n  plain q\n  ref r a\n  ref s a")
NO_INTEGERS = [True, False, None, "1", "", (1,), [1], {1: 1}, (), [], {}, 1.0]


class IsRowTest(unittest.TestCase):

    def check(self, table, value, expected):
        self.assertIs(is_row(SCHEMA, table, value), expected, (table, value))

    def test_examples(self):
        self.check("shop", (5, 1, 3), True)
        self.check("shop", (5, True, 3), False)

    def test_by_name(self):
        self.assertIs(is_row(schema=SCHEMA, table="shop", value=(5, 1, 3)), True)
        self.assertIs(is_row(value=(5, 1), table="shop", schema=SCHEMA), False)

    def test_ids(self):
        for table, rest in (("region", (7,)), ("shop", (7, 7)), ("bare", ())):
            for key, expected in ((0, True), (MOST, True), (-1, False), (MOST + 1, False), (-MOST, False)):
                self.check(table, (key, *rest), expected)

    def test_references(self):
        for key, expected in ((0, True), (MOST, True), (-1, False), (MOST + 1, False), (-MOST, False)):
            self.check("shop", (5, 1, key), expected)

    def test_plain_values(self):
        for part, expected in ((0, True), (MOST, True), (-MOST, True), (MOST + 1, False), (-MOST - 1, False)):
            self.check("region", (5, part), expected)
            self.check("shop", (5, part, 3), expected)

    def test_each_place_has_its_own_bounds(self):
        for place, low in enumerate((0, -MOST, -MOST, 0, 0)):
            for part, expected in ((low, True), (low - 1, False), (MOST, True), (MOST + 1, False)):
                value = [1, 2, 3, 4, 5]
                value[place] = part
                self.assertIs(is_row(WIDE, "b", tuple(value)), expected, value)

    def test_too_short_and_too_long(self):
        for table, right in (("region", 2), ("shop", 3), ("bare", 1)):
            for length in range(6):
                self.check(table, (1,) * length, length == right)

    def test_lists_in_the_place_of_tuples(self):
        self.check("shop", [5, 1, 3], False)
        self.check("bare", [5], False)
        self.check("bare", 5, False)
        self.check("bare", {5: 5}, False)
        self.check("bare", "5", False)

    def test_no_integers(self):
        for other in NO_INTEGERS:
            for place in range(3):
                value = [1, 1, 1]
                value[place] = other
                self.check("shop", tuple(value), False)
            self.check("bare", (other,), False)

    def test_rows_need_not_be_there(self):
        self.check("shop", (5, 1, 999), True)

    def test_any_value(self):
        rows = {"region": [(5, 1)], "shop": [], "bare": [(0,), (1,), (5,), (MOST,)]}
        for table in SCHEMA.tables:
            for value in ANY_VALUES:
                self.check(table, value, value in rows[table] and type(value[0]) is int)

    def test_nested_parts(self):
        for depth in range(50):
            for inner in (1, None, (), (5, 1, 3)):
                for part in nested(inner, depth):
                    self.check("shop", (5, part, 3), type(part) is int)
                    self.check("shop", (5, 1, 3, part), False)

    def test_nothing_is_changed(self):
        value = [5, [1], {"a": [2]}]
        self.check("shop", value, False)
        self.check("shop", tuple(value), False)
        self.assertEqual(value, [5, [1], {"a": [2]}])
        self.assertEqual(SCHEMA.tables, ("region", "shop", "bare"))
        self.assertEqual(SCHEMA.columns("shop"), (("open", None), ("place", "region")))


if __name__ == "__main__":
    unittest.main()
