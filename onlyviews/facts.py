"""What contents of views, a batch and known rows tell of the rows of the base behind them."""


class Facts:
    """For rows that are there ahead of a batch, by (table, id), the values and references that are told."""

    def __init__(self, views, kept, batch, known):
        """Take views, their contents, a batch, and the pairs (table, row) of known rows ahead of it."""
        self.batch = batch
        self.parts = {}
        for key in batch.needed:
            self._tell(key, {})
        for key, row in batch.old.items():
            if row is not None:
                self._tell(key, self._parts_of(key[0], row))
        for table, row in known:
            self._tell((table, row[0]), self._parts_of(table, row))
        for view, rows in zip(views, kept):
            for told, values in rows.values():
                self._tell_shown(view, told, values)

    def _tell(self, key, parts):
        self.parts.setdefault(key, {}).update(parts)

    def _parts_of(self, table, row):
        """Return the dict from the columns of a table to the parts of a row."""
        return {name: part for (name, target), part in zip(self.batch.schema.columns(table), row[1:])}

    def _tell_shown(self, view, told, values):
        """Tell what a row of a view tells."""
        keys = [(table, key) for (parent, reference, table), key in zip(view.nodes, told)]
        for (parent, reference, table), key in zip(view.nodes, keys):
            self._tell(key, {})
            if parent is not None:
                self._tell(keys[parent], {reference: key[1]})
        for (node, column), value in zip(view.shown, values):
            self._tell(keys[node], {column: value})

    def ahead(self, key):
        """Return the told parts of a row ahead of the batch, or None if nothing tells that it is there."""
        return self.parts.get(key)

    def behind(self, key):
        """Return the told parts of a row behind the batch, or None if nothing tells that it is there."""
        if key not in self.batch.new:
            return self.parts.get(key)
        row = self.batch.new[key]
        return None if row is None else self._parts_of(key[0], row)

    def keys_behind(self, view, key):
        """Return the keys of the rows at all nodes of a view behind the batch, or None where they are not told."""
        if self.behind(key) is None:
            return None
        keys = [key]
        for parent, reference, table in view.nodes[1:]:
            parts = self.behind(keys[parent])
            if parts is None or reference not in parts:
                return None
            keys.append((table, parts[reference]))
        return keys

    def roots(self, view):
        """Return the keys of all rows of the root's table of a view that are told to be there, ahead or behind."""
        told = {key: True for key in list(self.parts) + list(self.batch.new)}
        return [key for key in told if key[0] == view.nodes[0][2]]
