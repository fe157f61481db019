"""The console (stage 10): forms of rows, answers, and the order of errors (points 3, 4, 5, 8 and 13)."""

import random
import unittest

from makers import SCHEMAS, any_base, any_batch, any_view
from onlyviews.console import Console
from onlyviews.errors import InvalidRow, InvalidText, NotAllowed, UnknownName
from onlyviews.kinds import hindrance, kinds
from onlyviews.schemas import Schema
from onlyviews.views import View
from oracle import shown_by, tables_of

SCHEMA = "schema\ntable region\n  plain size\ntable shop\n  plain open\n  ref place region"
BIG = "view shop\n  follow place\n    shown size\n    range size 10 -"


def filled():
    """Return a console with a view, and rows of both tables."""
    console = Console()
    for row in [SCHEMA, "view big\n" + BIG, "insert region 3 12", "insert shop 5 1 3"]:
        console.answer(row)
    return console


class ConsoleCase(unittest.TestCase):

    def refuses(self, console, said, error, **told):
        """See that a row raises an error with these attributes, and changes nothing."""
        before = state(console)
        with self.assertRaises(error) as caught:
            console.answer(said)
        self.assertEqual({name: getattr(caught.exception, name) for name in told}, told)
        self.assertEqual(state(console), before, said)

    def is_no_row(self, console, *rows):
        for row in rows:
            self.refuses(console, row, InvalidRow, row=row)


def state(console):
    """Return all that a console with views big and all tells, as far as it has them."""
    found = []
    for row in ["names", "show big", "show all", "contents big", "contents all", "kind big set region size"]:
        try:
            found.append(console.answer(row))
        except (InvalidRow, UnknownName) as error:
            found.append(type(error))
    return found


class FormsTest(ConsoleCase):

    def test_example(self):
        console = Console()
        rows = ["schema\ntable region\n  plain size", "view big\nview region\n  range size 10 -", "insert region 3 12",
                "contents big", "kind big set region size"]
        self.assertEqual([console.answer(row) for row in rows], ["ok", "ok", "ok", "3=", "yes"])
        self.assertEqual([Console().answer(row=SCHEMA), Console().answer(SCHEMA)], ["ok", "ok"])

    def test_each_form(self):
        console = filled()
        for row, told in [
                ("names", "big"), ("show big", BIG), ("contents big", "5,3=12"),
                ("set region 3 9", "ok"), ("contents big", "none"), ("set region 3 10", "ok"), ("contents big", "5,3=10"),
                ("kind big insert shop", "no"), ("kind big delete shop", "yes"), ("kind big set region size", "no"),
                ("kind big set shop open", "yes"), ("kind big set shop place", "no"), ("kind big insert region", "yes"),
                ("view all\nview shop\n  shown open", "ok"), ("contents all", "5=1"), ("names", "all big"),
                ("delete shop 5", "ok"), ("contents all", "none"), ("delete region 3", "ok"),
                (SCHEMA, "ok"), ("names", "none")]:
            self.assertEqual(console.answer(row), told, row)

    def test_spaces(self):
        console = filled()
        for row in ["names", "show big", "contents big", "kind big insert shop", "kind big set shop open", "delete shop 5",
                    "insert region 4 1", "set region 3 1", "schema\ntable a", "view all\nview shop"]:
            head, end, text = row.partition("\n")
            spoilt = [" " + head, head + " ", head.replace(" ", "  ", 1), head.replace(" ", "\t", 1), "  " + head]
            self.is_no_row(console, *[each + end + text for each in spoilt if each != head])
        # Behind a newline the text is judged.
        self.refuses(console, "view all\n view shop", InvalidText, row=0)
        self.refuses(console, "view all\nview  shop", InvalidText, row=0)
        self.refuses(console, "schema\ntable a ", InvalidText, row=0)

    def test_newlines(self):
        console = filled()
        for row in ["names", "show big", "contents big", "kind big insert shop", "delete shop 5", "insert region 4 1",
                    "set region 3 1", "delete shop 6", "show other"]:
            self.is_no_row(console, row + "\n", "\n" + row, row + "\nview shop", row.replace(" ", "\n", 1) + "\n",
                           row + "\r", row + "\n\n")
        self.is_no_row(console, "schema", "view big", "view", "", "\n", "\nschema", "schema \ntable a", "schema a\ntable a",
                       "view big \nview shop", "view\nview shop", "view \nview shop", "view a b\nview shop",
                       "view big", "schem\ntable a", "schemas\ntable a", "Schema\ntable a", "views big\nview shop")

    def test_names(self):
        console = filled()
        for name in ["abcdefghi", "", "A", "a1", "a_b", "aB", "1", "-", "\xe4", "a.b", "big,all"]:
            self.is_no_row(console, f"view {name}\nview shop", f"show {name}", f"contents {name}",
                           f"kind {name} insert shop")
        for name in ["a", "abcdefgh", "names", "none", "schema", "view", "kind", "insert"]:
            self.assertEqual(console.answer(f"view {name}\nview shop"), "ok")
            self.assertEqual(console.answer(f"show {name}"), "view shop")
            self.assertEqual(console.answer(f"contents {name}"), "5=")
            self.assertEqual(console.answer(f"kind {name} insert shop"), "yes")
        self.assertEqual(console.answer("names"), "a abcdefgh big insert kind names none schema view")

    def test_words(self):
        console = filled()
        self.is_no_row(console, "name", "names all", "Names", "show", "show big all", "contents", "contents big big", "kind",
                       "kind big", "kind big insert", "kind big insert shop open", "kind big set shop", "kind big set",
                       "kind big set shop open place", "kind big delete shop open", "kind big make shop",
                       "kind insert shop", "kind big Insert shop", "delete", "delete shop", "delete shop 5 1",
                       "delete shop 5 1 3", "kinds big insert shop", "show big insert shop", "kinds big set shop open",
                       "contents big set shop open", "kind big set insert shop", "insert", "insert shop", "set", "set shop", "drop shop 5", "big")

    def test_tables_and_columns(self):
        console = filled()
        self.is_no_row(console, "insert shops 7 1 3", "set shops 5 1 3", "delete shops 5", "kind big insert shops",
                       "kind big delete a", "kind big set shops open", "kind big set shop opened", "kind big set shop size",
                       "kind big set region place", "kind big set region id", "insert  5 1 3")

    def test_before_there_is_a_schema(self):
        console = Console()
        self.is_no_row(console, "names", "show big", "contents big", "insert region 3 12", "set region 3 12",
                       "delete region 3", "kind big insert region", "view big\nview region", "view big\nnonsense", "")
        self.refuses(console, "schema\n", InvalidText, row=0)
        self.is_no_row(console, "names")
        self.assertEqual(console.answer("schema\ntable a"), "ok")
        self.assertEqual(console.answer("names"), "none")


class NumbersTest(ConsoleCase):

    def test_how_numbers_are_written(self):
        console = filled()
        for word in ["01", "-0", "+1", "00", "-01", "1.", "1,", "0x1", "1_0", "\u0661", "\xb2", "", "-", "--1", "one", "- 1"]:
            self.is_no_row(console, f"insert region 4 {word}", f"insert region {word} 4", f"set region 3 {word}",
                           f"delete region {word}", f"insert shop 6 {word} 3", f"insert shop 6 1 {word}")

    def test_bounds(self):
        console = filled()
        for word in ["1000001", "-1000001", "10000000", "99999999999999999999", "-99999999999999999999"]:
            self.is_no_row(console, f"insert region 4 {word}", f"insert region {word} 4", f"set region 3 {word}",
                           f"delete region {word}", f"insert shop 6 1 {word}")
        # Ids and references are not below 0.
        self.is_no_row(console, "insert region -1 4", "insert shop 6 1 -1", "delete region -1", "set region -1 4")
        for row in ["insert region 1000000 1000000", "insert region 0 -1000000", "insert shop 1000000 -1000000 1000000",
                    "insert shop 0 0 0", "delete shop 1000000", "set region 3 -1000000"]:
            self.assertEqual(console.answer(row), "ok", row)

    def test_too_few_and_too_many(self):
        console = filled()
        self.is_no_row(console, "insert region 4", "insert region 4 1 1", "insert shop 6 1", "insert shop 6 1 3 3",
                       "insert shop 6", "set region 3", "set region 3 1 1", "set shop 5 1", "set shop 5 1 3 3")

    def test_tables_without_columns(self):
        console = Console()
        for row in ["schema\ntable a", "view all\nview a", "insert a 5", "insert a 4"]:
            self.assertEqual(console.answer(row), "ok")
        self.assertEqual(console.answer("contents all"), "4= 5=")
        self.is_no_row(console, "insert a", "insert a 6 1", "set a 5 1")
        self.assertEqual(console.answer("set a 5"), "ok")


class ErrorsTest(ConsoleCase):

    def test_no_such_name(self):
        console = filled()
        for row in ["show all", "contents all", "kind all insert shop", "kind all set shop open"]:
            self.refuses(console, row, UnknownName, name="all")

    def test_invalid_rows_first(self):
        console = filled()
        # Neither a view of this name nor a table or a column.
        self.is_no_row(console, "kind all insert shops", "kind all set shop opened", "kind all make shop", "show all all")
        # Neither allowed nor right numbers.
        self.is_no_row(console, "insert region 3 1 1", "delete region 03", "set region 9")

    def test_not_allowed(self):
        console = filled()
        for row in ["insert region 3 1", "insert shop 5 1 3", "insert shop 6 1 4", "delete region 3", "delete region 4",
                    "delete shop 6", "set region 4 1", "set shop 5 1 4", "set shop 6 1 3"]:
            self.refuses(console, row, NotAllowed, index=0)

    def test_invalid_texts(self):
        console = filled()
        for text, row in [("", 0), ("view shops", 0), ("view shop\n  shown size", 1), (BIG + "\n", 4), (BIG + "\n  shown open", 4),
                          ("view shop\n  range open 1001 -", 1)]:
            self.refuses(console, "view big\n" + text, InvalidText, row=row)
            self.refuses(console, "view all\n" + text, InvalidText, row=row)
        for text, row in [("", 0), ("table a\n  ref r b", 1), ("table a\n", 1), ("table a\ntable a", 1), ("schema\ntable a", 0)]:
            self.refuses(console, "schema\n" + text, InvalidText, row=row)


class StateTest(ConsoleCase):

    def test_a_schema_told_anew(self):
        console = filled()
        self.assertEqual(console.answer("schema\ntable region\n  plain size"), "ok")
        self.assertEqual(console.answer("names"), "none")
        self.is_no_row(console, "insert shop 5 1 3", "view big")
        self.refuses(console, "contents big", UnknownName, name="big")
        self.assertEqual(console.answer("view all\nview region\n  shown size"), "ok")
        self.assertEqual(console.answer("contents all"), "none")
        self.assertEqual(console.answer("insert region 3 7"), "ok")
        self.assertEqual(console.answer("contents all"), "3=7")

    def test_the_same_schema_again(self):
        console = filled()
        self.assertEqual(console.answer(SCHEMA), "ok")
        self.assertEqual(console.answer("names"), "none")
        self.refuses(console, "delete shop 5", NotAllowed, index=0)

    def test_a_view_replaced(self):
        console = filled()
        self.assertEqual(console.answer("view big\nview shop\n  shown open"), "ok")
        self.assertEqual([console.answer(row) for row in ("names", "show big", "contents big")],
                         ["big", "view shop\n  shown open", "5=1"])

    def test_contents(self):
        console = Console()
        for row in ["schema\ntable a\n  plain p\n  plain q\ntable b\n  plain p\n  ref r a\n  ref s a", "insert a 10 -1 2",
                    "insert a 9 3 4", "insert b 10 5 9 10", "insert b 2 -6 9 9", "insert b 1000000 0 10 10",
                    "view all\nview b\n  shown p\n  follow r\n    shown p\n    shown q\n  follow s\n    range p 0 -",
                    "view ids\nview b\n  follow s", "view few\nview a\n  shown q\n  range p -1 -1"]:
            self.assertEqual(console.answer(row), "ok")
        self.assertEqual(console.answer("contents all"), "2,9,9=-6,3,4")
        self.assertEqual(console.answer("contents ids"), "2,9= 10,10= 1000000,10=")
        self.assertEqual(console.answer("contents few"), "10=2")

    def test_two_consoles(self):
        first, second = filled(), Console()
        self.assertEqual(second.answer("schema\ntable region\n  plain size"), "ok")
        self.assertEqual(second.answer("insert region 3 1"), "ok")
        self.assertEqual(second.answer("view all\nview region"), "ok")
        self.assertEqual([first.answer("names"), second.answer("names")], ["big", "all"])
        self.assertEqual([first.answer("contents big"), second.answer("contents all")], ["5,3=12", "3="])

    def test_kinds_of_a_view_alone(self):
        # All regions with their sizes would let inserts of shops be followed, were they kept with it.
        console = filled()
        console.answer("view regions\nview region\n  shown size")
        for key in range(100, 130):
            console.answer(f"insert region {key} {key}")
        self.assertEqual([console.answer(f"kind big {kind}") for kind in
                          ("insert shop", "delete shop", "set shop place", "set region size", "delete region")],
                         ["no", "yes", "no", "no", "yes"])

    def test_drawn_rows(self):
        for seed in range(60):
            chance = random.Random(seed)
            schema = chance.choice(SCHEMAS)
            views = {name: any_view(chance, schema) for name in ("a", "b")}
            console = Console()
            rows = ["schema\n" + str(schema)] + [f"view {name}\n{view}" for name, view in views.items()]
            base = any_base(chance, schema)
            changes = [("insert", table, row) for table in schema.tables for row in base.rows(table).values()]
            batch = any_batch(chance, base, 6)
            for word, table, *told in changes + batch:
                rows.append(f"{word} {table} " + " ".join(map(str, told[-1][:1] if word == "delete" else told[-1])))
            for row in rows:
                self.assertEqual(console.answer(row), "ok", row)
            base.make(batch)
            for name, view in views.items():
                shown = shown_by(view, tables_of(base))
                parts = [",".join(map(str, shown[key][0])) + "=" + ",".join(map(str, shown[key][1])) for key in sorted(shown)]
                self.assertEqual(console.answer(f"contents {name}"), " ".join(parts) or "none")
                for kind in kinds(schema):
                    can = hindrance([view], 0, kind) is None
                    self.assertEqual(console.answer(f"kind {name} " + " ".join(kind)), "yes" if can else "no")

    def test_views_of_the_schema_told(self):
        console = filled()
        self.assertEqual(console.answer("show big"), str(View.parse(Schema.parse(SCHEMA[7:]), BIG)))


if __name__ == "__main__":
    unittest.main()
