"""Two unknown bases, the worlds, that allow a batch and in which kept views have equal contents.

Their rows are the told ones, which the batch names, those to which told rows lead, perhaps one more root row of the
wanted view, and rows below these, to which nothing else refers. If any two such bases differ for the wanted view behind
the batch, then two of this form do: a row to which several others lead may be there once for each of them, if the
batch does not name it, and one to which a reference leads in one base alone may be the same in both. A row that the
batch changes is led to by others only where the wanted view follows them, and elsewhere by a copy of it as it was.
"""

from itertools import combinations

from onlyviews.bases import target_of
from onlyviews.batches import in_order
from onlyviews.cases import Cases
from onlyviews.formulas import FALSE, Formula, TRUE
from onlyviews.spots import Spot, State, cuts_of, equal_number, followed_by, known_number, open_number


class Worlds:
    """The worlds of kept views and a batch, and a wanted view, of which contents are compared behind the batch."""

    def __init__(self, views, batch, wanted):
        self.batch = batch
        self.schema = batch.schema
        self.views = list(views)
        self.wanted = wanted
        self.formula = Formula()
        self.cuts = cuts_of(self.views + [wanted])
        self._followed = followed_by(self.views + [wanted])
        self._followed_by_wanted = followed_by([wanted])
        self._symbols = {}
        self.spots = []
        self.named = {}
        for table in self.schema.tables:
            self._add_named(table)
        self.cases = Cases(self.formula, self.views + [wanted], self.cuts)

    def _add_named(self, table):
        """Add the told rows of a table, and the ones to which told rows lead."""
        for key in in_order(self.schema, self._led()):
            if key[0] == table:
                self.named[key] = self._open_spot(table, key[1], TRUE, [TRUE, TRUE])
        for key in self.batch.told():
            if key[0] == table:
                self.named[key] = self._told_spot(key)

    def _led(self):
        """Return a dict with the keys of rows that are not told, but to which told rows lead by followed references."""
        found = {}
        for key in self.batch.told():
            for row in (self.batch.old[key], self.batch.new[key]):
                for target in [] if row is None else self._followed_keys(key[0], row):
                    if target not in self.batch.old:
                        found[target] = True
        return found

    def _followed_keys(self, table, row):
        """Return the keys of the rows to which a row leads by references that views follow."""
        return [(target, part) for (column, target), part in zip(self.schema.columns(table), row[1:])
                if (table, column) in self._followed]

    def _told_spot(self, key):
        states = [self._told_state(key[0], row) for row in (self.batch.old[key], self.batch.new[key])]
        spot = Spot(len(self.spots), key[0], key[1], TRUE, [states, states])
        spot.equal = {column: TRUE for table, column in self.cuts if table == key[0]}
        spot.common = (states[0].targets, states[1].targets)
        self.spots.append(spot)
        return spot

    def _told_state(self, table, row):
        """Return the state of a told row, None for one that is not there."""
        if row is None:
            return State(FALSE)
        state = State(TRUE)
        for (column, target), part in zip(self.schema.columns(table), row[1:]):
            if (table, column) in self.cuts:
                state.numbers[column] = self.told_number(table, column, part)
            elif (target, part) in self.named:
                state.targets[column] = [(TRUE, self.named[target, part])]
        return state

    def told_number(self, table, column, part):
        """Return the literals of a told value: an integer, or a string for one that may be chosen."""
        cuts = self.cuts[table, column]
        if not isinstance(part, str):
            return known_number(cuts, part)
        if (table, column, part) not in self._symbols:
            self._symbols[table, column, part] = open_number(self.formula, cuts)
        return self._symbols[table, column, part]

    def _open_spot(self, table, name, shared, there):
        """Return a new spot of unknown rows, which are there by a literal for each world, and of what is below."""
        pairs = [[state, state] for state in [State(literal) for literal in there]]
        spot = Spot(len(self.spots), table, name, shared, pairs)
        self.spots.append(spot)
        for column, target in self.schema.columns(table):
            if (table, column) in self.cuts:
                self._add_numbers(spot, column)
            elif (table, column) in self._followed:
                self._add_reference(spot, column, target)
        return spot

    def _add_numbers(self, spot, column):
        cuts = self.cuts[spot.table, column]
        first, second = open_number(self.formula, cuts), open_number(self.formula, cuts)
        spot.states[0][0].numbers[column] = first
        spot.states[1][0].numbers[column] = second
        spot.equal[column] = equal_number(self.formula, cuts, first, second)

    def _add_reference(self, spot, reference, target):
        """Let a reference lead to a row of its own, or to a told one, in each world."""
        shared = self.formula.variable(True)
        below = self._open_spot(target, None, shared, [TRUE, TRUE])
        goals = self._goals(spot.table, reference, target)
        first = self._add_targets(spot, 0, reference, below, goals)
        second = self._add_targets(spot, 1, reference, below, goals)
        common = [(self.formula.both([one, other]), goal) for one, other, goal in zip(first, second, goals)]
        common.append((shared, below))
        self.formula.demand([shared ^ 1, spot.shared])
        spot.common[0][reference] = common
        spot.common[1][reference] = common

    def _add_targets(self, spot, world, reference, below, goals):
        """Let a reference lead to a spot below or to a goal in a world; return the literals of the goals."""
        literals = [self.formula.variable() for goal in goals]
        for one, other in combinations(literals, 2):
            self.formula.demand([one ^ 1, other ^ 1])
        own = self.formula.either(literals) ^ 1
        state = spot.states[world][0]
        state.targets[reference] = list(zip(literals, goals)) + [(own, below)]
        self.formula.demand([below.shared ^ 1, own])
        self.formula.demand([below.shared ^ 1, state.there])
        return literals

    def _goals(self, table, reference, target):
        """Return the told spots to which it matters that a reference of an unknown row may lead."""
        if (table, reference) not in self._followed_by_wanted:
            return []
        return [self.named[key] for key in self.batch.told()
                if key[0] == target and self.batch.is_steady(key) and self.batch.is_touched(key)]

    def demand_alike(self):
        """Demand that all kept views have equal contents ahead of the batch."""
        for spot in self.spots:
            for number, view in enumerate(self.views):
                if view.nodes[0][2] == spot.table:
                    self.cases.demand_alike(spot, number)

    def demand_equal_answer(self, question):
        """Demand that a question, below or above, has equal answers ahead of the batch."""
        if question[0] == "below":
            if (question[1], question[2]) in self.named:
                self.formula.demand([self.cases.identical(self.named[question[1], question[2]])])
            return
        for spot in list(self.spots):
            if spot.table == question[1]:
                self._demand_equal_above(spot, question[2], question[3])

    def _demand_equal_above(self, spot, path, key):
        """Demand that a row is the same in both worlds if it leads to a told one by a path in one of them."""
        goal = self.named[self._end(spot.table, path), key]
        for world in (0, 1):
            leads = self.cases.leads(world, spot, path, goal)
            self.formula.demand([spot.shared ^ 1, leads ^ 1, self.cases.identical(spot)])

    def _end(self, table, path):
        """Return the table to which a path leads."""
        for reference in path:
            table = target_of(self.schema, table, reference)
        return table

    def add_root(self):
        """Return a new spot of the wanted view's root table for a row that the batch does not tell."""
        there = [self.formula.variable(True), self.formula.variable(True)]
        return self._open_spot(self.wanted.nodes[0][2], None, TRUE, there)

    def differs(self, spot):
        """Return whether behind the batch the wanted view has a row for this root, other than in the second world."""
        number = len(self.views)
        first = self.cases.holds(0, spot, number, 0, 1)
        second = self.cases.holds(1, spot, number, 0, 1)
        alike = self.formula.both([second, self.cases.same(spot, number, 0, 1)])
        return self.formula.both([first, alike ^ 1])
