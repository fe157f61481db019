"""The contents of views behind a batch, from their contents ahead of it.

If a batch can be followed, all bases that fit the contents give the same contents behind it, so that any of them will
do. Of such a base only the rows are made up that the changed rows of views need: those of the batch, and those at
nodes, with what is below them. A row whose reference nothing tells could as well lead to any other row, so that it is
in no row of a view behind the batch.
"""

from onlyviews.batches import Batch
from onlyviews.cases import Cases
from onlyviews.facts import Facts
from onlyviews.formulas import FALSE, Formula, TRUE
from onlyviews.spots import Spot, State, cell, cuts_of, followed_by, known_number, near_zero, open_number


def new_contents(views, kept, changes, known):
    """Return the list of the contents of views behind a batch that can be followed.

    kept is the list of the contents of the views ahead of the batch, known a list of pairs (table, row) of rows there.
    """
    if not views:
        return []
    facts = Facts(views, kept, Batch(views[0].schema, changes), known)
    plans = [plan(facts, view) for view in views]
    asked = [(number, keys) for number, told in enumerate(plans) for keys in told.values() if keys is not None]
    fitting = Fitting(views, kept, facts, asked)
    found = [{key: row for key, row in rows.items() if key not in told} for rows, told in zip(kept, plans)]
    for number, keys in asked:
        if fitting.has_row(number, keys):
            found[number][keys[0][1]] = fitting.made_row(number, keys)
    return found


def asked_contents(views, kept, changes, wanted):
    """Return the contents of a wanted view behind a batch, which views answer by their contents ahead of it."""
    facts = Facts(views, kept, Batch(wanted.schema, changes), [])
    number = len(views)
    plans = [facts.keys_behind(wanted, root) for root in facts.roots(wanted)]
    asked = [(number, keys) for keys in plans if keys is not None]
    fitting = Fitting(list(views) + [wanted], kept, facts, asked)
    return {keys[0][1]: fitting.made_row(number, keys) for number, keys in asked if fitting.has_row(number, keys)}


def plan(facts, view):
    """Return a dict from the ids of the roots of which a view may tell other things behind a batch to the keys of the
    rows at all nodes there, or None if it has no row for them."""
    found = {}
    for root in facts.roots(view):
        keys = facts.keys_behind(view, root)
        if keys is None or any([is_changed(facts.batch, key) for key in keys]):
            found[root[1]] = keys
    return found


def is_changed(batch, key):
    """Return True if a batch changes the row with a key."""
    return key in batch.old and batch.old[key] != batch.new[key]


class Fitting:
    """Rows that fit contents of views, as far as they are asked for behind a batch."""

    def __init__(self, views, kept, facts, asked):
        """Take views, the contents of all or of the first ones, facts of these, and pairs of a view's number and the
        keys at its nodes."""
        self._views = views
        self._facts = facts
        self._schema = facts.batch.schema
        self._formula = Formula()
        self._cuts = cuts_of(views)
        self._followed = followed_by(views)
        self._many = 0
        self._named = {}
        self._add_named([key for number, keys in asked for key in keys])
        self._cases = Cases(self._formula, views, self._cuts)
        self._demand(kept)
        # What is asked for must be known to the formula ahead of solve.
        for number, keys in asked:
            self._holds_behind(number, keys)
        self._formula.solve()

    def _holds_behind(self, number, keys):
        return self._cases.holds(0, self._named[keys[0]], number, 0, 1)

    def has_row(self, number, keys):
        """Return True if a view has a row behind the batch for the rows with these keys at its nodes."""
        return self._formula.is_true(self._holds_behind(number, keys))

    def made_row(self, number, keys):
        """Return the row that a view has behind the batch for the rows with these keys at its nodes."""
        values = [self._value(keys[node], column) for node, column in self._views[number].shown]
        return tuple([key[1] for key in keys]), tuple(values)

    def _value(self, key, column):
        parts = self._facts.behind(key)
        if column in parts:
            return parts[column]
        number = self._named[key].states[0][1].numbers[column]
        low, high = cell(self._formula, self._cuts[key[0], column], number)
        return near_zero(low, high)

    def _add_named(self, keys):
        """Add spots for rows with keys, for those of the batch, and for all to which these are told to lead."""
        batch = self._facts.batch
        wanted = {}
        for key in keys + list(batch.old) + list(batch.needed):
            self._want(key, wanted)
        for table in self._schema.tables:
            for key in wanted:
                if key[0] == table:
                    self._named[key] = self._spot(key, self._facts.ahead(key), self._facts.behind(key))

    def _want(self, key, wanted):
        if key in wanted:
            return
        wanted[key] = True
        for parts in (self._facts.ahead(key), self._facts.behind(key)):
            for column, target in [] if parts is None else self._schema.columns(key[0]):
                if target is not None and column in parts:
                    self._want((target, parts[column]), wanted)

    def _spot(self, key, ahead, behind):
        """Return a spot with the parts that are told, or None for a row that is not there, ahead and behind."""
        first = self._state(key[0], ahead)
        second = first if key not in self._facts.batch.old else self._state(key[0], behind)
        self._many += 1
        return Spot(self._many, key[0], key[1], TRUE, [[first, second]])

    def _state(self, table, parts):
        if parts is None:
            return State(FALSE)
        state = State(TRUE)
        for column, target in self._schema.columns(table):
            if (table, column) in self._cuts:
                state.numbers[column] = self._number(self._cuts[table, column], parts.get(column))
            elif (table, column) in self._followed:
                state.targets[column] = [(TRUE, self._led(target, parts.get(column)))]
        return state

    def _number(self, cuts, value):
        return open_number(self._formula, cuts) if value is None else known_number(cuts, value)

    def _led(self, table, key):
        """Return the spot of the row with an id, or of any row where None is told."""
        return self._spot((table, None), {}, {}) if key is None else self._named[table, key]

    def _demand(self, kept):
        """Demand that views have rows for spots exactly where they have."""
        for key, spot in self._named.items():
            for number, rows in enumerate(kept):
                if self._views[number].nodes[0][2] == key[0]:
                    holds = self._cases.holds(0, spot, number, 0, 0)
                    self._formula.demand([holds if key[1] in rows else holds ^ 1])
