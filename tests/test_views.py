"""Points 7 and 8: views, their text form and their contents."""

import random
import unittest

from makers import BIG, PLACES, REGIONS, SCHEMAS, SHOPS, any_base, any_view
from onlyviews.bases import Base
from onlyviews.errors import InvalidText, ViewError
from onlyviews.schemas import Schema
from onlyviews.views import View, chain, contents
from oracle import shown_by, tables_of
from samples import ANY_VALUES

TREE = Schema.parse(
    "table a\n  plain p\n  plain q\ntable b\n  plain p\n  ref r a\n  ref s a\ntable c\n  plain p\n  plain q\n  ref r b")
FULL = "\n".join([
    "view c", "  shown p", "  shown q", "  range p -1000 1000", "  range q - -",
    "  follow r", "    shown p", "    range p - 0",
    "    follow r", "      shown q", "      range q 7 -5", "    follow s", "      shown p", "      shown q"])

GOOD = [
    "view a", "view b", "view c", FULL,
    "view a\n  shown p", "view a\n  shown q", "view a\n  shown p\n  shown q\n  range p 1 2\n  range q 1 2",
    "view b\n  follow r\n  follow s", "view b\n  follow s", "view b\n  follow r\n    shown q\n  follow s\n    shown p",
    "view c\n  follow r\n    follow r\n    follow s", "view c\n  shown q\n  follow r\n    follow s\n      range p - -",
    "view a\n  range p 0 0", "view a\n  range p 10 9", "view a\n  range q -1 1", "view a\n  range q -1000 -",
    "view a\n  range q - 1000", "view a\n  range p -999 999", "view a\n  range p - -\n  range q - -",
]

# Each text with the number of the first row that no text form has there.
BAD = [
    ("", 0), ("\n", 0), ("view", 0), ("view ", 0), ("view d", 0), ("view a b", 0), (" view a", 0), ("view  a", 0),
    ("view a ", 0), ("View a", 0), ("table a", 0), ("shown p", 0), ("  shown p", 0), ("view a\n", 1), ("view a\n\n", 1),
    ("view a\n  ", 1), ("view a\nview a", 1), ("view a\n  view a", 1), ("view a\nshown p", 1), ("view a\n shown p", 1),
    ("view a\n   shown p", 1), ("view a\n    shown p", 1), ("view a\n\tshown p", 1), ("view a\n  shown", 1),
    ("view a\n  shown p q", 1), ("view a\n  shown  p", 1), ("view a\n  shown p ", 1), ("view a\n  shown r", 1),
    ("view b\n  shown r", 1), ("view b\n  range r 1 2", 1), ("view b\n  follow p", 1), ("view b\n  follow", 1),
    ("view b\n  follow r s", 1), ("view b\n  follow t", 1), ("view a\n  hidden p", 1), ("view a\n  Shown p", 1),
    ("view a\n  shown p\n  shown p", 2), ("view a\n  shown q\n  shown p", 2), ("view a\n  range p 1 2\n  shown p", 2),
    ("view a\n  range q 1 2\n  range p 1 2", 2), ("view a\n  range p 1 2\n  range p 1 3", 2),
    ("view b\n  follow r\n  follow r", 2), ("view b\n  follow s\n  follow r", 2), ("view b\n  follow r\n  shown p", 2),
    ("view b\n  follow r\n  range p 1 1", 2), ("view b\n  follow r\n    shown p\n  follow r", 3),
    ("view b\n  follow r\n    shown p\n  shown p", 3), ("view b\n  follow r\n      shown p", 2),
    ("view b\n  follow r\n     shown p", 2), ("view b\n  follow r\n   shown p", 2),
    ("view b\n  follow r\n    follow r", 2), ("view b\n  follow r\n    shown p\n      shown q", 3),
    ("view c\n  follow r\n    follow r\n      shown p\n    shown p", 4),
    ("view c\n  follow r\n    follow s\n    follow r", 3), ("view a\n  shown p\n    shown q", 2),
    ("view a\n  range p", 1), ("view a\n  range p 1", 1), ("view a\n  range p 1 2 3", 1), ("view a\n  range p 1  2", 1),
    ("view a\n  range p -1001 1", 1), ("view a\n  range p 1 1001", 1), ("view a\n  range p 1001 -", 1),
    ("view a\n  range p - -1001", 1), ("view a\n  range p -0 1", 1), ("view a\n  range p 1 -0", 1),
    ("view a\n  range p 00 1", 1), ("view a\n  range p 01 1", 1), ("view a\n  range p 1 -01", 1),
    ("view a\n  range p +1 2", 1), ("view a\n  range p 1.0 2", 1), ("view a\n  range p 1_0 20", 1),
    ("view a\n  range p -- 1", 1), ("view a\n  range p --1 1", 1), ("view a\n  range p 1- 1", 1),
    ("view a\n  range p \u0661 9", 1), ("view a\n  range p \u00b2 9", 1), ("view a\n  range p 1e1 99", 1),
    ("view a\n  range p " + "1" * 5000 + " -", 1), ("view a\n  range p 10000 -", 1), ("view a\n  range p x 1", 1),
    (FULL + "\n      shown q", 14), (FULL + "\n", 14), (FULL + "\n      range p 1 2", 14),
    (FULL.replace("range q 7 -5", "range q 7 1001"), 10), (FULL + "\n  follow r", 14),
]


class TextTest(unittest.TestCase):

    def refused(self, schema, text):
        with self.assertRaises(InvalidText, msg=repr(text)) as caught:
            View.parse(schema, text)
        self.assertIsInstance(caught.exception, ViewError)
        return caught.exception.row

    def test_texts_are_written_again(self):
        for text in GOOD:
            self.assertEqual(str(View.parse(TREE, text)), text)

    def test_texts_that_are_none(self):
        for text, row in BAD:
            self.assertEqual(self.refused(TREE, text), row, text)

    def test_a_fifth_range(self):
        ranges = "view b\n  range p 1 2\n  follow r\n    range p 1 2\n    range q 1 2\n  follow s\n    range p 1 2"
        self.assertEqual(len(View.parse(TREE, ranges).ranges), 4)
        self.assertEqual(self.refused(TREE, ranges + "\n    range q - -"), 7)

    def test_a_fifth_node(self):
        # Such a tree needs a fourth reference, which only tables that are followed twice give.
        schema = Schema.parse("table a\ntable b\n  ref r a\ntable c\n  ref r b\n  ref s b")
        text = "view c\n  follow r\n    follow r\n  follow s"
        self.assertEqual(len(View.parse(schema, text).nodes), 4)
        self.assertEqual(self.refused(schema, text + "\n    follow r"), 4)

    def test_each_beginning_of_a_text_is_one(self):
        rows = FULL.split("\n")
        for many in range(1, len(rows) + 1):
            View.parse(TREE, "\n".join(rows[:many]))

    def test_attributes(self):
        view = View.parse(TREE, FULL)
        self.assertEqual(view.schema, TREE)
        self.assertEqual(view.nodes, ((None, None, "c"), (0, "r", "b"), (1, "r", "a"), (1, "s", "a")))
        self.assertEqual(view.shown, ((0, "p"), (0, "q"), (1, "p"), (2, "q"), (3, "p"), (3, "q")))
        self.assertEqual(view.ranges, ((0, "p", -1000, 1000), (0, "q", None, None), (1, "p", None, 0), (2, "q", 7, -5)))
        view = View.parse(TREE, "view a")
        self.assertEqual([view.nodes, view.shown, view.ranges], [((None, None, "a"),), (), ()])
        view = View.parse(TREE, "view b\n  follow r\n    shown p\n  follow s\n    shown q")
        self.assertEqual([view.nodes[1:], view.shown], [((0, "r", "a"), (0, "s", "a")), ((1, "p"), (2, "q"))])

    def test_equality(self):
        self.assertEqual(View.parse(TREE, FULL), View.parse(Schema.parse(str(TREE)), FULL))
        self.assertNotEqual(View.parse(TREE, "view a"), View.parse(TREE, "view b"))
        self.assertNotEqual(View.parse(TREE, "view a\n  range p 1 2"), View.parse(TREE, "view a\n  range p 1 3"))
        # Equal texts, unlike schemas.
        self.assertNotEqual(View.parse(TREE, "view a"), View.parse(Schema.parse("table a"), "view a"))
        for value in [*ANY_VALUES, "view a", TREE]:
            self.assertFalse(View.parse(TREE, "view a") == value)
            self.assertTrue(View.parse(TREE, "view a") != value)

    def test_random_texts(self):
        for seed in range(300):
            chance = random.Random(seed)
            view = any_view(chance, chance.choice(SCHEMAS), -1000, 1000)
            rows = str(view).split("\n")
            self.assertEqual(View.parse(view.schema, str(view)), view)
            # A doubled row is no part of any text, and neither is one behind it with other parts.
            at = chance.randrange(len(rows))
            doubled = rows[:at + 1] + rows[at:]
            self.assertEqual(self.refused(view.schema, "\n".join(doubled)), at + 1)


class ContentsTest(unittest.TestCase):

    def test_example(self):
        base = Base(SHOPS, [("region", (3, 12)), ("region", (4, 2)), ("shop", (5, 1, 3)), ("shop", (6, 0, 4))])
        self.assertEqual(BIG.nodes, ((None, None, "shop"), (0, "place", "region")))
        self.assertEqual(BIG.ranges, ((1, "size", 10, None),))
        self.assertEqual(chain(BIG, base, 6), ((6, 0, 4), (4, 2)))
        self.assertEqual(contents(BIG, base), {5: ((5, 3), (12,))})

    def test_chains(self):
        base = Base(SHOPS, [("region", (0, 12)), ("shop", (10 ** 6, 1, 0))])
        self.assertIsNone(chain(BIG, base, 0))
        self.assertEqual(chain(REGIONS, base, 0), ((0, 12),))
        self.assertEqual(chain(PLACES, base, 10 ** 6), ((10 ** 6, 1, 0), (0, 12)))
        # The chain does not ask whether ranges hold.
        self.assertEqual(chain(View.parse(SHOPS, "view region\n  range size 5 4"), base, 0), ((0, 12),))

    def test_one_row_at_two_nodes(self):
        base = Base(TREE, [("a", (1, 5, 6)), ("a", (2, 7, 8)), ("b", (1, 0, 1, 1)), ("b", (2, 0, 1, 2))])
        view = View.parse(TREE, "view b\n  follow r\n    shown p\n    range p 5 5\n  follow s\n    shown p\n    shown q")
        self.assertEqual(contents(view, base), {1: ((1, 1, 1), (5, 5, 6)), 2: ((2, 1, 2), (5, 7, 8))})
        base.make([("set", "b", (2, 0, 1, 2), (2, 0, 2, 1))])
        self.assertEqual(contents(view, base), {1: ((1, 1, 1), (5, 5, 6))})

    def test_a_table_at_several_nodes(self):
        base = Base(TREE, [("a", (1, 5, 6)), ("a", (2, 7, 8)), ("b", (3, 9, 1, 2)), ("c", (4, 0, 1, 3))])
        view = View.parse(TREE, FULL.replace("7 -5", "-5 7").replace("- 0", "9 9"))
        self.assertEqual(chain(view, base, 4), ((4, 0, 1, 3), (3, 9, 1, 2), (1, 5, 6), (2, 7, 8)))
        self.assertEqual(contents(view, base), {4: ((4, 3, 1, 2), (0, 1, 9, 6, 7, 8))})
        self.assertEqual(contents(View.parse(TREE, FULL), base), {})

    def test_ranges(self):
        base = Base(SHOPS, [("region", (key, key - 1002)) for key in range(2005)])
        for low, high in [(None, None), (None, 3), (-2, None), (-2, 3), (4, 4), (4, 3), (1000, None), (None, -1000)]:
            words = ["-" if end is None else str(end) for end in (low, high)]
            view = View.parse(SHOPS, f"view region\n  shown size\n  range size {words[0]} {words[1]}")
            kept = [size for size in range(-1002, 1003) if (low is None or low <= size) and (high is None or size <= high)]
            self.assertEqual(contents(view, base), {size + 1002: ((size + 1002,), (size,)) for size in kept})

    def test_as_told_plainly(self):
        for seed in range(400):
            chance = random.Random(seed)
            schema = chance.choice(SCHEMAS)
            base, view = any_base(chance, schema, 4), any_view(chance, schema)
            self.assertEqual(contents(view, base), shown_by(view, tables_of(base)))

    def test_new_dicts(self):
        base = Base(SHOPS, [("region", (3, 12))])
        contents(REGIONS, base).clear()
        self.assertEqual(contents(REGIONS, base), {3: ((3,), (12,))})


if __name__ == "__main__":
    unittest.main()
