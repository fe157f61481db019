"""Two bases by the values that were found for the literals of worlds."""

from onlyviews.bases import Base
from onlyviews.spots import cell, near_zero


class Evidence:
    """The rows of two bases."""

    def __init__(self, worlds, root):
        """Take the values that were found for worlds, and the spot of an unknown root row, or None."""
        self._worlds = worlds
        self._schema = worlds.schema
        self._formula = worlds.formula
        self._rows = [{}, {}]
        self._names = {}
        self._fillers = {}
        self._taken = {key: True for key in list(worlds.batch.old) + list(worlds.batch.needed)}
        for key, row in worlds.batch.old.items():
            if row is not None:
                self._put(key[0], self.told_row(key[0], row), (0, 1))
        for table, key in worlds.batch.needed:
            if (table, key) not in worlds.named:
                self._put(table, self._plain_row(table, key), (0, 1))
        for spot in [worlds.named[key] for key in worlds.named if key not in worlds.batch.old]:
            self._put_spot(spot, 0)
            self._put_spot(spot, 1)
        for world in [] if root is None else [0, 1]:
            if self._formula.is_true(root.states[world][0].there):
                self._put_spot(root, world)

    def bases(self):
        """Return the tuple of both bases."""
        return tuple([Base(self._schema, [(key[0], row) for key, row in rows.items()]) for rows in self._rows])

    def told_row(self, table, row):
        """Return a row of a change with integers in place of strings."""
        columns = self._schema.columns(table)
        parts = [self._told_value(table, name, part) for (name, target), part in zip(columns, row[1:])]
        return tuple(row[:1]) + tuple(parts)

    def _told_value(self, table, column, part):
        if not isinstance(part, str):
            return part
        if (table, column) not in self._worlds.cuts:
            return 0
        low, high = self._cell(table, column, self._worlds.told_number(table, column, part))
        return near_zero(low, high)

    def _cell(self, table, column, number):
        return cell(self._formula, self._worlds.cuts[table, column], number)

    def _put(self, table, row, worlds):
        for world in worlds:
            self._rows[world][table, row[0]] = row

    def _plain_row(self, table, key):
        """Return a row with an id of which nothing is demanded."""
        parts = [0 if target is None else self._filler(target) for name, target in self._schema.columns(table)]
        return tuple([key] + parts)

    def _filler(self, table):
        """Return the id of a row of a table of which nothing is demanded."""
        if table not in self._fillers:
            self._fillers[table] = self._new_name(table)
            self._put(table, self._plain_row(table, self._fillers[table]), (0, 1))
        return self._fillers[table]

    def _new_name(self, table):
        name = 0
        while (table, name) in self._taken:
            name += 1
        self._taken[table, name] = True
        return name

    def _put_spot(self, spot, world):
        """Put the row of a spot in a world, and those below it, into the bases."""
        row = self._spot_row(spot, world)
        # Where the id is not shared, nothing else tells the row apart in the other base.
        self._put(spot.table, row, (world,) if self._formula.is_true(spot.shared) else (0, 1))
        for reference in spot.states[world][0].targets:
            target = self._target(spot, world, reference)
            if target.name is None:
                self._put_spot(target, world)

    def _spot_row(self, spot, world):
        parts = [self._name(spot, world)]
        for column, target in self._schema.columns(spot.table):
            if column in spot.equal:
                parts.append(self._value(spot, world, column))
            elif column in spot.states[world][0].targets:
                parts.append(self._name(self._target(spot, world, column), world))
            else:
                parts.append(0 if target is None else self._filler(target))
        return tuple(parts)

    def _name(self, spot, world):
        if spot.name is not None:
            return spot.name
        key = (spot.at, 0 if self._formula.is_true(spot.shared) else world)
        if key not in self._names:
            self._names[key] = self._new_name(spot.table)
        return self._names[key]

    def _target(self, spot, world, reference):
        """Return the spot to which a reference leads."""
        ways = spot.states[world][0].targets[reference]
        return [target for guard, target in ways if self._formula.is_true(guard)][0]

    def _value(self, spot, world, column):
        first, second = [self._cell(spot.table, column, spot.states[at][0].numbers[column]) for at in (0, 1)]
        value = near_zero(first[0], first[1])
        if world == 0 or self._formula.is_true(spot.equal[column]):
            return value
        other = near_zero(second[0], second[1])
        if other != value:
            return other
        return other + 1 if other < second[1] else other - 1
