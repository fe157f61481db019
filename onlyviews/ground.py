"""What views and a batch tell of the rows of which rules and refutations speak.

Rows have names there, each row one: t, if no change names it, TABLE:ID if a change names it or a row of a change leads
to it, and NAME.REFERENCE for another row to which that of a name leads. A place (name, path, moment) says from which
row references lead to a row, ahead of the batch or behind it; as a name, t may be any row of the root's table there.
"""

from onlyviews.bases import target_of
from onlyviews.batches import Batch
from onlyviews.rulenames import ROOT, read_step, read_told_name, told_by, told_name

AHEAD = 0
BEHIND = 1


class Ground:
    """Kept views, a batch and a view."""

    def __init__(self, views, changes, view):
        self.schema = view.schema
        self.view = view
        self.table = view.nodes[0][2]
        self.views = list(views)
        self.told_keys = {told_name(key): key for key in told_by(self.schema, changes)}
        batch = Batch(self.schema, changes)
        self.old_rows = {told_name(key): row for key, row in batch.old.items()}
        # By the rows that changes name, ahead of the batch and behind it, their parts by columns, or None.
        self.parts = tuple([{told_name(key): self._parts(key[0], row) for key, row in rows.items()}
                           for rows in (batch.old, batch.new)])
        # The names of the rows of each table that a change names, and of those of them to which other rows may lead.
        self.named = {table: names_in(batch.told(), table) for table in self.schema.tables}
        self.steady = {table: names_in([key for key in batch.told() if batch.is_steady(key)], table)
                       for table in self.schema.tables}
        self._paths = [paths_of(each) for each in self.views + [view]]
        self._places = {}
        self._tables = {ROOT: self.table}

    def _parts(self, table, row):
        """Return the dict from the columns of a table to the parts of a row, with names for references."""
        if row is None:
            return None
        return {column: part if target is None else told_name((target, part))
                for (column, target), part in zip(self.schema.columns(table), row[1:])}

    def table_of(self, name):
        """Return the table of the row with a name."""
        if name not in self._tables:
            if name in self.told_keys:
                self._tables[name] = self.told_keys[name][0]
            else:
                parent, dot, reference = name.rpartition(".")
                self._tables[name] = target_of(self.schema, self.table_of(parent), reference)
        return self._tables[name]

    def is_changed(self, name):
        """Return True if the batch changes the row with a name that a change has."""
        return self.parts[AHEAD][name] != self.parts[BEHIND][name]

    def led_names(self, name):
        """Return the names of the rows to which a row that a change names leads, ahead of the batch or behind it."""
        parts = [rows[name] for rows in self.parts if rows.get(name) is not None]
        return [part for row in parts for part in row.values() if isinstance(part, str)]

    def path_to(self, number, node):
        """Return the path from the root to a node of a kept view, or of the view for None."""
        return self._paths[-1 if number is None else number][node]

    def place_of(self, word):
        """Return the place that a rule names by a word."""
        if word not in self._places:
            self._places[word] = self._new_place(word)
        return self._places[word]

    def _new_place(self, word):
        row, slash, step = word.rpartition("/")
        if not slash:
            return word, (), AHEAD
        number, node = read_step(step)
        return beyond(self.place_of(row), self.path_to(number, node))

    def value_place_of(self, word):
        """Return the place and the column of the shown value that a rule names by a word."""
        row, slash, step = word.rpartition("/")
        number, at = read_step(step)
        node, column = self.views[number].shown[at]
        return beyond(self.place_of(row), self.path_to(number, node)), column

    def place_table(self, place):
        """Return the table of the rows at a place."""
        table = self.table_of(place[0])
        for reference in place[1]:
            table = target_of(self.schema, table, reference)
        return table

    def node_place(self, node):
        """Return the place of the row at a node of the view behind the batch."""
        return ROOT, self.path_to(None, node), BEHIND

    def ranges_of(self, number, place):
        """Return the conditions that all ranges of a kept view, or of the view for None, hold for the row at a place.
        """
        view = self.view if number is None else self.views[number]
        return [(beyond(place, self.path_to(number, node)), column, low, high, True)
                for node, column, low, high in view.ranges]


def names_in(keys, table):
    """Return the list of the names of those keys (table, id) that are of a table."""
    return [told_name(key) for key in keys if key[0] == table]


def paths_of(view):
    """Return the list of the paths from the root of a view to its nodes."""
    found = []
    for parent, reference, table in view.nodes:
        found.append(() if parent is None else found[parent] + (reference,))
    return found


def beyond(place, path):
    """Return the place to which a path leads from another one."""
    return place[0], place[1] + path, place[2]


def denied(condition):
    """Return the condition that one of a range does not hold."""
    place, column, low, high, inside = condition
    return place, column, low, high, not inside
