"""Schemas: tables with their columns, the text form, and the form of rows."""

from onlyviews.errors import InvalidText

LARGEST = 1000000
MOST_LETTERS = 8
MOST_TABLES = 3
MOST_PLAIN = 2
MOST_REFERENCES = 2
MOST_REFERENCES_IN_ALL = 3


class Schema:
    """A schema: tables with plain columns and references to earlier tables."""

    def __init__(self, tables):
        """Keep pairs (name, columns), with columns as pairs (name, target)."""
        self.tables = tuple([name for name, columns in tables])
        self._columns = {name: tuple(columns) for name, columns in tables}
        self._rows = text_rows(tables)

    @classmethod
    def parse(cls, text):
        """Return the schema of a text form, or raise InvalidText(row)."""
        return cls(read_tables(text))

    def __str__(self):
        return "\n".join(self._rows)

    def __eq__(self, other):
        return isinstance(other, Schema) and self._rows == other._rows

    def columns(self, table):
        """Return the columns of a table as tuples (name, target), with None for plain ones."""
        return self._columns[table]


def is_row(schema, table, value):
    """Return True if a value, which may be any, has the form of a row of a table."""
    columns = schema.columns(table)
    if not isinstance(value, tuple) or len(value) != 1 + len(columns):
        return False
    lows = [0] + [-LARGEST if target is None else 0 for name, target in columns]
    return all([is_within(part, low, LARGEST) for part, low in zip(value, lows)])


def is_within(value, low, high):
    """Return True if a value, which may be any, is an integer from low to high."""
    return isinstance(value, int) and not isinstance(value, bool) and low <= value <= high


def is_name(word):
    """Return True if a word is a name: one to eight letters from a to z."""
    return len(word) <= MOST_LETTERS and word.isascii() and word.isalpha() and word.islower()


def is_new_name(word, pairs):
    """Return True if a word is a name with which none of the pairs begins."""
    return is_name(word) and word not in [pair[0] for pair in pairs]


def text_rows(tables):
    """Return the rows of the text form of pairs (name, columns)."""
    rows = []
    for table, columns in tables:
        rows.append(f"table {table}")
        rows.extend([column_row(name, target) for name, target in columns])
    return rows


def column_row(name, target):
    """Return the row of a column in a text form."""
    return f"  plain {name}" if target is None else f"  ref {name} {target}"


def read_tables(text):
    """Return the list of pairs (name, columns) of a text form, or raise InvalidText(row)."""
    tables = []
    for number, row in enumerate(text.split("\n")):
        words = row.split(" ")
        if begins_table(tables, words):
            tables.append((words[1], []))
        elif adds_plain(tables, words):
            tables[-1][1].append((words[3], None))
        elif adds_reference(tables, words):
            tables[-1][1].append((words[3], words[4]))
        else:
            raise InvalidText(number)
    return tables


def begins_table(tables, words):
    """Return True if a row of these words begins a table behind some tables."""
    if len(words) != 2 or words[0] != "table":
        return False
    return len(tables) < MOST_TABLES and is_new_name(words[1], tables)


def adds_plain(tables, words):
    """Return True if a row of these words adds a plain column to the last table."""
    if not tables or len(words) != 4 or words[:3] != ["", "", "plain"]:
        return False
    columns = tables[-1][1]
    if count_references(columns) > 0 or len(columns) == MOST_PLAIN:
        return False
    return is_new_name(words[3], columns)


def adds_reference(tables, words):
    """Return True if a row of these words adds a reference to the last table."""
    if not tables or len(words) != 5 or words[:3] != ["", "", "ref"]:
        return False
    columns = tables[-1][1]
    if count_references(columns) == MOST_REFERENCES:
        return False
    if sum([count_references(pair[1]) for pair in tables]) == MOST_REFERENCES_IN_ALL:
        return False
    earlier = [pair[0] for pair in tables[:-1]]
    return is_new_name(words[3], columns) and words[4] in earlier


def count_references(columns):
    """Return how many of some columns are references."""
    return len([name for name, target in columns if target is not None])
