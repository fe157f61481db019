"""Bases: the rows of all tables, and the batches of changes that they allow."""

from onlyviews.errors import NotAllowed


class Base:
    """The rows of the tables of a schema, in which each reference leads to a row."""

    def __init__(self, schema, rows=()):
        self.schema = schema
        self._tables = {table: {} for table in schema.tables}
        for table, row in rows:
            self._tables[table][row[0]] = row

    def __eq__(self, other):
        return isinstance(other, Base) and self.schema == other.schema and self._tables == other._tables

    def rows(self, table):
        """Return the dict from the ids of a table to its rows."""
        return {key: row for key, row in self._tables[table].items()}

    def row_at(self, table, key):
        """Return the row of a table with an id, or None."""
        return self._tables[table].get(key)

    def fork(self):
        """Return a base with the same rows that is independent of this one."""
        return Base(self.schema, [(table, row) for table in self.schema.tables for row in self._tables[table].values()])

    def make(self, changes):
        """Make a batch, or raise NotAllowed(index) and make nothing."""
        ahead = self.fork()
        refused = ahead._advance(changes)
        if refused is not None:
            raise NotAllowed(refused)
        self._tables = ahead._tables

    def is_allowed(self, changes):
        """Return True if a batch is allowed; nothing is made."""
        return self.fork()._advance(changes) is None

    def _advance(self, changes):
        """Make changes up to the first one that is not allowed; return its index, or None."""
        for index, change in enumerate(changes):
            old, new = old_and_new(change)
            if not self._allows(change[1], old, new):
                return index
            rows = self._tables[change[1]]
            if new is None:
                del rows[old[0]]
            else:
                rows[new[0]] = new
        return None

    def _allows(self, table, old, new):
        """Return True if a row old may become new, with None for a row that is not there."""
        key = new[0] if old is None else old[0]
        if self.row_at(table, key) != old:
            return False
        if new is None:
            return not self._is_led_to(table, key)
        led = led_to(self.schema, table, new)
        return all([self.row_at(target, place) is not None for target, place in led])

    def _is_led_to(self, table, key):
        """Return True if a row refers to the row of a table with this id."""
        for other in self.schema.tables:
            places = [at + 1 for at, (name, target) in enumerate(self.schema.columns(other)) if target == table]
            for row in self._tables[other].values():
                if key in [row[at] for at in places]:
                    return True
        return False


def old_and_new(change):
    """Return the old and the new row of a change, with None for a row that is not there."""
    if change[0] == "insert":
        return None, change[2]
    if change[0] == "delete":
        return change[2], None
    return change[2], change[3]


def led_to(schema, table, row):
    """Return the pairs (table, id) to which a row of a table refers, in the order of its columns."""
    return [(target, part) for (name, target), part in zip(schema.columns(table), row[1:]) if target is not None]


def column_place(schema, table, column):
    """Return the index that the value of a column has in a row of a table."""
    return 1 + [name for name, target in schema.columns(table)].index(column)


def target_of(schema, table, reference):
    """Return the table to which a reference of a table leads."""
    return [target for name, target in schema.columns(table) if name == reference][0]


def net(changes):
    """Return the dict from (table, id) to (old, new) for each row that a batch changes."""
    told = {}
    for change in changes:
        old, new = old_and_new(change)
        key = (change[1], new[0] if old is None else old[0])
        first = told[key][0] if key in told else old
        told[key] = (first, new)
    return {key: pair for key, pair in told.items() if pair[0] != pair[1]}
