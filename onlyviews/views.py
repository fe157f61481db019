"""Views: a tree of nodes with shown columns and ranges, its text form, and its contents."""

from onlyviews.bases import column_place, target_of
from onlyviews.errors import InvalidText
from onlyviews.integers import read_integer

LOWEST_END = -1000
HIGHEST_END = 1000
MOST_NODES = 4
MOST_RANGES = 4


class View:
    """A view of a schema."""

    def __init__(self, schema, text):
        """Read a text form, or raise InvalidText(row)."""
        parts = Parts(schema)
        for number, row in enumerate(text.split("\n")):
            if not parts.takes(number, row):
                raise InvalidText(number)
        self.schema = schema
        self.nodes = tuple(parts.nodes)
        self.shown = tuple(parts.shown)
        self.ranges = tuple(parts.ranges)
        self._text = text
        # The same again with places in rows, by which contents are read.
        self.steps = tuple([self._step(node) for node in parts.nodes[1:]])
        self.looks = tuple([(node, self._place(node, column)) for node, column in parts.shown])
        self.tests = tuple([(node, self._place(node, column), low, high) for node, column, low, high in parts.ranges])

    @classmethod
    def parse(cls, schema, text):
        """Return the view of a text form, or raise InvalidText(row)."""
        return cls(schema, text)

    def __str__(self):
        return str(self._text)

    def __eq__(self, other):
        return isinstance(other, View) and self.schema == other.schema and self._text == other._text

    def _place(self, node, column):
        return column_place(self.schema, self.nodes[node][2], column)

    def _step(self, node):
        return node[0], self._place(node[0], node[1]), node[2]


class Parts:
    """The parts of a view, as far as the rows of its text were read."""

    def __init__(self, schema):
        self._schema = schema
        self.nodes = []
        self.shown = []
        self.ranges = []
        # The nodes from the root to the last one, each with the rank of its last part.
        self._way = []

    def takes(self, number, row):
        """Take the row with this number if a text form may have it there; return whether it may."""
        words = row.split(" ")
        if number == 0:
            return self._takes_root(words)
        indent = len(row) - len(row.lstrip(" "))
        level = indent // 2 - 1
        if indent != 2 * level + 2 or not 0 <= level < len(self._way):
            return False
        return self._takes_part(level, words[indent:])

    def _takes_root(self, words):
        if len(words) != 2 or words[0] != "view" or words[1] not in self._schema.tables:
            return False
        self._add_node(None, None, words[1])
        return True

    def _add_node(self, parent, reference, table):
        self.nodes.append((parent, reference, table))
        self._way.append((len(self.nodes) - 1, (0, 0)))

    def _takes_part(self, level, words):
        node, last = self._way[level]
        rank = self._rank(node, words)
        if rank is None or rank <= last:
            return False
        if not self._takes_words(node, words):
            return False
        # A child that was added stands behind the node; any earlier one is left.
        added = self._way[-1:] if words[0] == "follow" else []
        self._way = self._way[:level] + [(node, rank)] + added
        return True

    def _rank(self, node, words):
        """Return what orders the parts of a node, or None if words are no part."""
        sizes = {"shown": 2, "range": 4, "follow": 2}
        if words[0] not in sizes or len(words) != sizes[words[0]]:
            return None
        names = [name for name, target in self._columns_at(node) if (target is not None) == (words[0] == "follow")]
        if words[1] not in names:
            return None
        return ["shown", "range", "follow"].index(words[0]), 1 + names.index(words[1])

    def _columns_at(self, node):
        return self._schema.columns(self.nodes[node][2])

    def _takes_words(self, node, words):
        if words[0] == "shown":
            self.shown.append((node, words[1]))
            return True
        return self._takes_range(node, words) if words[0] == "range" else self._takes_child(node, words[1])

    def _takes_range(self, node, words):
        if len(self.ranges) == MOST_RANGES or not is_end(words[2]) or not is_end(words[3]):
            return False
        self.ranges.append((node, words[1], read_end(words[2]), read_end(words[3])))
        return True

    def _takes_child(self, node, reference):
        if len(self.nodes) == MOST_NODES:
            return False
        self._add_node(node, reference, target_of(self._schema, self.nodes[node][2], reference))
        return True


def is_end(word):
    """Return True if a word writes an end of a range."""
    return word == "-" or read_end(word) is not None


def read_end(word):
    """Return the end of a range that a word writes, None for a missing one."""
    return read_integer(word, LOWEST_END, HIGHEST_END)


def chain(view, base, key):
    """Return the rows at all nodes for the row of the root's table with an id, or None."""
    root = base.row_at(view.nodes[0][2], key)
    if root is None:
        return None
    rows = [root]
    for parent, place, table in view.steps:
        rows.append(base.row_at(table, rows[parent][place]))
    return tuple(rows)


def is_within_ends(value, low, high):
    """Return True if a range with these ends holds for a value."""
    return (low is None or low <= value) and (high is None or value <= high)


def row_told(view, rows):
    """Return the row (ids, values) of a view for the rows at all nodes, or None if a range does not hold."""
    for node, place, low, high in view.tests:
        if not is_within_ends(rows[node][place], low, high):
            return None
    return tuple([row[0] for row in rows]), tuple([rows[node][place] for node, place in view.looks])


def contents(view, base):
    """Return the contents of a view in a base."""
    found = {}
    for key in base.rows(view.nodes[0][2]):
        told = row_told(view, chain(view, base, key))
        if told is not None:
            found[key] = told
    return found
