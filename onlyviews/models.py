"""A base and an id in which all holds that was told in a situation."""

from onlyviews.bases import Base
from onlyviews.ground import AHEAD
from onlyviews.left import nearest_left
from onlyviews.rulenames import ROOT
from onlyviews.schemas import LARGEST


class Model:
    """The rows of a base for a situation in which nothing else must be told."""

    def __init__(self, situation):
        self._situation = situation
        self._ground = situation.ground
        self._schema = situation.ground.schema
        self._rows = []
        self._fillers = {}
        self._many = 0
        self._taken = {key: True for key in self._ground.told_keys.values()}
        self._keys = {name: key[1] for name, key in self._ground.told_keys.items()}
        self._values = self._find_values()
        for name, row in self._ground.old_rows.items():
            if row is not None:
                self._rows.append((self._ground.table_of(name), row))
        for name in self._other_rows():
            self._put(name)

    def base(self):
        """Return the base."""
        return Base(self._schema, self._rows)

    def root_id(self):
        """Return the id of the row that t is."""
        return self._key(self._situation.root)

    def _other_rows(self):
        """Return the list of the names of all rows but those that changes name."""
        named = self._ground.parts[AHEAD]
        found = {name: True for name in self._ground.told_keys if name not in named}
        if self._situation.root == ROOT and self._situation.is_ahead:
            found[ROOT] = True
        found.update({name: True for name, bit in self._situation.targets.values() if name not in named})
        return list(found)

    def _find_values(self):
        """Return the dict from (name, column) to values that conditions leave, which the fault has unlike."""
        bounds = self._situation.bounds
        values = {key: self._value_for(bounds[key]) for key in bounds}
        fault = self._situation.unlike
        if fault is None:
            return values
        found = [self._situation.value_at(fault.place, fault.column),
                 self._situation.value_at(fault.given, fault.given_column)]
        first, second = [values.setdefault(told[0], self._value_for([])) if isinstance(told[0], tuple) else told[0]
                         for told in found]
        for told, other in zip(found, (second, first)):
            if first == second and isinstance(told[0], tuple):
                # One of both may have another value, as not just this one is left for each.
                value = nearest_left(told[1] + [(other, other, False)], other, LARGEST)
                if value is not None:
                    values[told[0]] = value
                    return values
        return values

    def _value_for(self, bounds):
        """Return a value that conditions leave; rather another one each time."""
        self._many += 1
        return nearest_left(bounds, self._many, LARGEST)

    def _key(self, name):
        if name not in self._keys:
            self._keys[name] = self._new_key(self._ground.table_of(name))
        return self._keys[name]

    def _new_key(self, table):
        key = 0
        while (table, key) in self._taken:
            key += 1
        self._taken[table, key] = True
        return key

    def _put(self, name):
        """Put a row that no change names."""
        table = self._ground.table_of(name)
        parts = [self._key(name)]
        for column, target in self._schema.columns(table):
            if target is not None:
                parts.append(self._target(name, column, target))
            else:
                parts.append(self._values[name, column] if (name, column) in self._values else self._value_for([]))
        self._rows.append((table, tuple(parts)))

    def _target(self, name, reference, table):
        """Return the id of the row to which a reference leads."""
        if (name, reference) in self._situation.targets:
            return self._key(self._situation.targets[name, reference][0])
        return self._filler(table)

    def _filler(self, table):
        """Return the id of a row of a table of which nothing is told."""
        if table not in self._fillers:
            key = self._new_key(table)
            self._fillers[table] = key
            parts = [self._value_for([]) if target is None else self._filler(target)
                     for column, target in self._schema.columns(table)]
            self._rows.append((table, tuple([key] + parts)))
        return self._fillers[table]
