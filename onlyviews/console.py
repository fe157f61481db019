"""A console: a schema, a base and views, which rows of text change and ask about."""

from onlyviews.bases import Base
from onlyviews.errors import InvalidRow, NotAllowed, UnknownName
from onlyviews.integers import read_integer
from onlyviews.kinds import hindrance
from onlyviews.schemas import LARGEST, Schema, is_name, is_row
from onlyviews.views import View, contents

DONE = "ok"
NOTHING = "none"


class Console:
    """A schema, a base of it, and views by their names."""

    def __init__(self):
        self._schema = None
        self._base = None
        self._views = {}

    def answer(self, row):
        """Execute a row, and return the text of the answer."""
        head, end, text = row.partition("\n")
        words = head.split(" ")
        if end and words == ["schema"]:
            return self._begin(text)
        if self._schema is None:
            raise InvalidRow(row)
        if not end:
            return self._execute(row, words)
        if not is_about_view("view", words):
            raise InvalidRow(row)
        self._views[words[1]] = View.parse(self._schema, text)
        return DONE

    def _begin(self, text):
        """Begin anew with the schema of a text."""
        self._schema = Schema.parse(text)
        self._base = Base(self._schema)
        self._views = {}
        return DONE

    def _execute(self, row, words):
        """Execute a row of one line by its words."""
        if words == ["names"]:
            return " ".join(sorted(list(self._views))) or NOTHING
        if is_about_view("show", words):
            return str(self._view_named(words[1]))
        if is_about_view("contents", words):
            return contents_text(contents(self._view_named(words[1]), self._base))
        kind = self._kind(words)
        if kind is not None:
            return "yes" if hindrance([self._view_named(words[1])], 0, kind) is None else "no"
        told = self._told_row(words)
        if told is None:
            raise InvalidRow(row)
        return self._change(words[0], words[1], told)

    def _view_named(self, name):
        if name not in self._views:
            raise UnknownName(name)
        return self._views[name]

    def _kind(self, words):
        """Return the kind of changes that words ask about, or None if they have not this form."""
        if len(words) < 4 or words[0] != "kind" or not is_name(words[1]) or words[3] not in self._schema.tables:
            return None
        if len(words) == 4:
            return (words[2], words[3]) if words[2] in ("insert", "delete") else None
        if len(words) != 5 or words[2] != "set":
            return None
        names = [name for name, target in self._schema.columns(words[3])]
        return ("set", words[3], words[4]) if words[4] in names else None

    def _told_row(self, words):
        """Return the numbers of a change in words, a row or an id alone, or None if they have not this form."""
        if len(words) < 3 or words[1] not in self._schema.tables:
            return None
        numbers = tuple([read_integer(word, -LARGEST, LARGEST) for word in words[2:]])
        if words[0] in ("insert", "set"):
            return numbers if is_row(self._schema, words[1], numbers) else None
        if words[0] != "delete" or len(numbers) != 1 or numbers[0] is None:
            return None
        return numbers if numbers[0] >= 0 else None

    def _change(self, word, table, told):
        """Make the change with a word, and with a new row or the id of the row to delete."""
        old = self._base.row_at(table, told[0])
        if word == "insert":
            change = ("insert", table, told)
        elif old is None:
            raise NotAllowed(0)
        else:
            change = ("delete", table, old) if word == "delete" else ("set", table, old, told)
        self._base.make([change])
        return DONE


def is_about_view(word, words):
    """Return True if words are this one and a name."""
    return len(words) == 2 and words[0] == word and is_name(words[1])


def contents_text(rows):
    """Return the text of contents."""
    found = []
    for key in sorted(list(rows)):
        ids, values = rows[key]
        found.append(f"{numbers_text(ids)}={numbers_text(values)}")
    return " ".join(found) or NOTHING


def numbers_text(numbers):
    """Return the text of numbers, separated by commas."""
    return ",".join([str(number) for number in numbers])
