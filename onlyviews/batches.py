"""What a batch tells of the bases that allow it."""

from onlyviews.bases import led_to, old_and_new


class Batch:
    """The rows that a batch names, told rows, by (table, id), and other rows that must be there."""

    def __init__(self, schema, changes):
        self.schema = schema
        # The rows ahead of the batch and behind it, with None for one that is not there.
        self.old = {}
        self.new = {}
        self._deleted = {}
        for change in changes:
            self._take(change)
        # The rows that are not told, but to which rows of changes refer.
        self.needed = {}
        for change in changes:
            for row in old_and_new(change):
                self._need(change[1], row)

    def _take(self, change):
        old, new = old_and_new(change)
        key = (change[1], new[0] if old is None else old[0])
        if key not in self.old:
            self.old[key] = old
        self.new[key] = new
        if new is None:
            self._deleted[key] = True

    def _need(self, table, row):
        for key in [] if row is None else led_to(self.schema, table, row):
            if key not in self.old:
                self.needed[key] = True

    def told(self):
        """Return the list of the keys of told rows, by tables and ids."""
        return in_order(self.schema, self.old)

    def is_steady(self, key):
        """Return True if other rows may refer to a told row ahead of the batch and behind it."""
        return self.old[key] is not None and key not in self._deleted

    def is_touched(self, key):
        """Return True if a told row, or one to which it leads, is changed by the batch."""
        if key not in self.old:
            return False
        if self.old[key] != self.new[key]:
            return True
        if self.old[key] is None:
            return False
        return any([self.is_touched(target) for target in led_to(self.schema, key[0], self.old[key])])


def in_order(schema, keys):
    """Return the list of some pairs (table, id), by the order of tables, then by ids."""
    return sorted(list(keys), key=lambda pair: (schema.tables.index(pair[0]), pair[1]))
