"""schemas.py: the class Schema (points 3 and 4)."""

import itertools
import re
import unittest

from onlyviews import schemas
from onlyviews.errors import InvalidText, ViewError
from onlyviews.schemas import Schema
from samples import ANY_VALUES

SHOPS = "table region\n  plain size\ntable shop\n  plain open\n  ref place region"

GOOD_TEXTS = [
    SHOPS,
    "table a",
    "table abcdefgh",
    "table zzzzzzzz",
    "table a\n  plain b",
    "table a\n  plain b\n  plain c",
    "table a\n  plain a",
    "table a\ntable b",
    "table a\ntable b\ntable c",
    "table a\ntable b\n  ref r a",
    "table a\ntable b\n  ref r a\n  ref s a",
    "table a\ntable b\n  plain p\n  plain q\n  ref r a\n  ref s a",
    "table a\ntable b\n  ref a a\ntable c\n  ref a b\n  ref b a",
    "table a\ntable b\n  ref r a\n  ref s a\ntable c\n  ref r b",
    "table a\n  plain p\n  plain q\ntable b\n  plain p\n  plain q\ntable c\n  plain p\n  plain q",
    "table table\n  plain plain\n  plain ref\ntable ref\n  ref table table\n  ref ref table",
    "table a\n  plain abcdefgh\ntable abcdefgh\n  ref ijklmnop a",
]

# Pairs of a text and the number of the row that is refused.
BAD_TEXTS = [
    # Nothing, empty rows, and newlines where none is.
    ("", 0),
    ("\n", 0),
    (" ", 0),
    ("\ntable a", 0),
    ("table a\n", 1),
    ("table a\n\n", 1),
    ("table a\n\ntable b", 1),
    ("table a\n  plain b\n", 2),
    (SHOPS + "\n", 5),
    ("table a\r\ntable b", 0),
    ("table a\rtable b", 0),
    # Rows without a table, and rows that no form has.
    ("  plain a", 0),
    ("  ref r a", 0),
    ("plain a", 0),
    ("table", 0),
    ("table ", 0),
    ("table a b", 0),
    ("Table a", 0),
    ("tables a", 0),
    ("a", 0),
    ("view a", 0),
    ("table a\n  plain", 1),
    ("table a\n  plain ", 1),
    ("table a\n  plain b c", 1),
    ("table a\n  Plain b", 1),
    ("table a\n  shown b", 1),
    ("table a\n  table b", 1),
    ("table a\ntable b\n  ref r", 2),
    ("table a\ntable b\n  ref r ", 2),
    ("table a\ntable b\n  ref r a a", 2),
    ("table a\ntable b\n  ref", 2),
    # Indents and blanks.
    (" table a", 0),
    ("  table a", 0),
    ("table  a", 0),
    ("table a ", 0),
    ("table\ta", 0),
    ("table a\nplain b", 1),
    ("table a\n plain b", 1),
    ("table a\n   plain b", 1),
    ("table a\n    plain b", 1),
    ("table a\n\tplain b", 1),
    ("table a\n  plain  b", 1),
    ("table a\n  plain b ", 1),
    ("table a\nx  plain b", 1),
    ("table a\n x plain b", 1),
    ("table a\ntable b\nx  ref r a", 2),
    ("table a\ntable b\n x ref r a", 2),
    ("table a\n  plainb", 1),
    ("tablea", 0),
    ("table a\n  ", 1),
    ("table a\ntable b\nref r a", 2),
    ("table a\ntable b\n ref r a", 2),
    ("table a\ntable b\n   ref r a", 2),
    ("table a\ntable b\n  ref  r a", 2),
    ("table a\ntable b\n  ref r  a", 2),
    ("table a\ntable b\n  ref r a ", 2),
    ("table a\ntable b\n  refr a", 2),
    ("table a\ntable b\n  ref ra", 2),
    # Names.
    ("table abcdefghi", 0),
    ("table A", 0),
    ("table aB", 0),
    ("table a1", 0),
    ("table 1", 0),
    ("table a_b", 0),
    ("table a-b", 0),
    ("table a.", 0),
    ("table \u00e9", 0),
    ("table a\u00df", 0),
    ("table \u0430", 0),
    ("table a\u00a0", 0),
    ("table a\n  plain abcdefghi", 1),
    ("table a\n  plain B", 1),
    ("table a\n  plain b2", 1),
    ("table a\n  plain \u00aa", 1),
    ("table a\ntable b\n  ref abcdefghi a", 2),
    ("table a\ntable b\n  ref R a", 2),
    ("table a\ntable b\n  ref r A", 2),
    ("table a\ntable b\n  ref r abcdefghi", 2),
    # Equal names.
    ("table a\ntable a", 1),
    ("table a\ntable b\ntable a", 2),
    ("table a\n  plain b\n  plain b", 2),
    ("table a\ntable b\n  ref r a\n  ref r a", 3),
    ("table a\ntable b\n  plain c\n  ref c a", 3),
    ("table a\ntable b\n  plain c\n  plain d\n  ref d a", 4),
    # Targets.
    ("table a\n  ref r a", 1),
    ("table a\n  ref r b", 1),
    ("table a\n  ref r b\ntable b", 1),
    ("table a\ntable b\n  ref r b", 2),
    ("table a\ntable b\n  ref r c\ntable c", 2),
    ("table a\n  plain p\ntable b\n  ref r p", 3),
    # The order of the rows.
    ("table a\ntable b\n  ref r a\n  plain p", 3),
    ("table a\ntable b\n  plain p\n  ref r a\n  plain q", 4),
    # One more than there may be.
    ("table a\ntable b\ntable c\ntable d", 3),
    ("table a\n  plain b\n  plain c\n  plain d", 3),
    ("table a\ntable b\n  ref r a\n  ref s a\n  ref t a", 4),
    ("table a\ntable b\n  ref r a\n  ref s a\ntable c\n  ref r a\n  ref s a", 6),
    ("table a\ntable b\n  ref r a\ntable c\n  ref r a\n  ref s a\n  ref t a", 6),
    # The first of several rows is told, and the rows behind it play no part.
    ("table A\ntable B", 0),
    ("table a\n  plain A\n  plain B", 1),
    ("table a\ntable a\ntable b\ntable c\ntable d", 1),
    ("x\n" * 3, 0),
]


class SchemaTest(unittest.TestCase):

    def refused_row(self, text):
        with self.assertRaises(InvalidText) as caught:
            Schema.parse(text)
        return caught.exception.row

    def test_examples(self):
        schema = Schema.parse(SHOPS)
        self.assertEqual(schema.tables, ("region", "shop"))
        self.assertEqual(schema.columns("shop"), (("open", None), ("place", "region")))
        self.assertEqual(self.refused_row("table a\n  ref r b"), 1)

    def test_read_texts_are_written_alike(self):
        for text in GOOD_TEXTS:
            self.assertEqual(str(Schema.parse(text)), text)

    def test_refused_texts(self):
        for text, row in BAD_TEXTS:
            with self.subTest(text=text):
                self.assertEqual(self.refused_row(text), row)

    def test_refused_is_a_view_error(self):
        self.assertRaises(ViewError, Schema.parse, "")
        self.assertIs(type(self.refused_row("table a\n")), int)

    def test_every_other_sign_in_a_name(self):
        for number in [*range(1, 0x250), 0x3b1, 0x430, 0x2028, 0xff41, 0x1d41a]:
            sign = chr(number)
            if "a" <= sign <= "z":
                self.assertEqual(str(Schema.parse(f"table a{sign}")), f"table a{sign}")
            elif sign == "\n":
                self.assertEqual(self.refused_row(f"table a{sign}"), 1)
            else:
                for text in (f"table a{sign}", f"table {sign}", f"table {sign}a"):
                    self.assertEqual(self.refused_row(text), 0, repr(text))

    def test_newlines_alone_part_rows(self):
        for sign in "\r\v\f\x1c\x1d\x1e\x85\u2028\u2029":
            self.assertEqual(self.refused_row(f"table a{sign}table b"), 0)

    def test_by_name(self):
        schema = Schema.parse(text=SHOPS)
        self.assertEqual(schema.columns(table="region"), (("size", None),))
        with self.assertRaises(InvalidText) as caught:
            Schema.parse(text="table a\n")
        self.assertEqual(caught.exception.row, 1)

    def test_tables_and_columns(self):
        schema = Schema.parse("table b\ntable a\n  plain z\n  plain y\n  ref x b\n  ref w b\ntable c\n  ref b a")
        self.assertEqual(schema.tables, ("b", "a", "c"))
        self.assertEqual(schema.columns("b"), ())
        self.assertEqual(schema.columns("a"), (("z", None), ("y", None), ("x", "b"), ("w", "b")))
        self.assertEqual(schema.columns("c"), (("b", "a"),))
        self.assertIs(type(schema.tables), tuple)
        for table in schema.tables:
            self.assertIs(type(schema.columns(table)), tuple)
            self.assertEqual({type(column) for column in schema.columns(table)} - {tuple}, set())

    def test_told_twice(self):
        schema = Schema.parse(SHOPS)
        self.assertEqual(schema.tables, schema.tables)
        self.assertEqual(schema.columns("shop"), schema.columns("shop"))
        self.assertEqual(str(schema), str(schema))
        self.assertEqual(Schema.parse(SHOPS), schema)

    def test_equality(self):
        for one, other in itertools.product(GOOD_TEXTS, repeat=2):
            self.assertIs(Schema.parse(one) == Schema.parse(other), one == other)
            self.assertIs(Schema.parse(one) != Schema.parse(other), one != other)

    def test_no_other_value_is_equal(self):
        schema = Schema.parse(SHOPS)
        others = [SHOPS, schema.tables, Schema, [schema], (schema,), {"a": schema}, object(), *ANY_VALUES]
        for other in others:
            self.assertIs(schema == other, False)
            self.assertIs(other == schema, False)
            self.assertIs(schema != other, True)

    def test_defined_where_the_interface_lists_it(self):
        self.assertEqual(Schema.__module__, "onlyviews.schemas")
        self.assertEqual(schemas.is_row.__module__, "onlyviews.schemas")
        for name in ("parse", "columns", "__str__", "__eq__"):
            self.assertIn(name, vars(Schema))
        self.assertIsInstance(vars(Schema)["parse"], classmethod)


ALL_ROWS = [
    "table a", "table b", "table c", "table d",
    "  plain a", "  plain b", "  plain c",
    "  ref a a", "  ref b b", "  ref c a", "  ref d c",
]
BLOCK = r"table [a-z]{1,8}(?:\n  plain [a-z]{1,8}){0,2}(?:\n  ref [a-z]{1,8} [a-z]{1,8}){0,2}"
FORM = re.compile(rf"{BLOCK}(?:\n{BLOCK}){{0,2}}")


def is_text_form(rows):
    """Tell from point 4 whether rows are a text form: of all rows at once, other than the program does."""
    if FORM.fullmatch("\n".join(rows)) is None:
        return False
    earlier = []
    for row in rows:
        words = row.split()
        if words[0] == "table":
            if words[1] in earlier:
                return False
            earlier.append(words[1])
            names = []
            continue
        if words[1] in names or words[2:] and words[2] not in earlier[:-1]:
            return False
        names.append(words[1])
    return len([row for row in rows if row.startswith("  ref")]) <= 3


class AllShortTextsTest(unittest.TestCase):
    """Every text of up to five rows, and of more rows behind some right ones."""

    def check_all(self, ahead, many):
        """Check all texts of some more rows; behind a refused row no further one is looked at."""
        for row in ALL_ROWS:
            rows = [*ahead, row]
            if is_text_form(rows):
                self.assertEqual(str(Schema.parse("\n".join(rows))), "\n".join(rows))
                if many > 1:
                    self.check_all(rows, many - 1)
                continue
            for behind in ([], ["table h"], ["", "x"]):
                with self.assertRaises(InvalidText, msg=rows) as caught:
                    Schema.parse("\n".join(rows + behind))
                self.assertEqual(caught.exception.row, len(ahead))

    def test_from_the_first_row(self):
        self.check_all([], 5)

    def test_behind_two_references(self):
        self.check_all(["table a", "table b", "  plain b", "  ref a a", "  ref c a", "table c"], 4)

    def test_behind_three_references(self):
        self.check_all(["table a", "table b", "  ref a a", "  ref c a", "table c", "  ref b b"], 3)


if __name__ == "__main__":
    unittest.main()
