"""Literals for what views show of spots."""

from onlyviews.formulas import FALSE, TRUE
from onlyviews.spots import within


class Cases:
    """What views, by their numbers, show of spots in the worlds of a formula."""

    def __init__(self, formula, views, cuts):
        self._formula = formula
        self._cuts = cuts
        self._views = [by_nodes(view) for view in views]
        self._held = {}
        self._same = {}

    def holds(self, world, spot, number, node, moment):
        """Return whether a row is there, and all ranges of a view at a node and below it hold for it."""
        key = (world, spot.at, number, node, moment)
        if key not in self._held:
            self._held[key] = self._find_holds(world, spot, number, node, moment)
        return self._held[key]

    def _find_holds(self, world, spot, number, node, moment):
        state = spot.states[world][moment]
        if state.there == FALSE:
            return FALSE
        shown, ranges, children = self._views[number][node]
        parts = [state.there]
        for column, low, high in ranges:
            parts.extend(within(self._cuts[spot.table, column], state.numbers[column], low, high))
        for reference, child in children:
            for guard, target in state.targets[reference]:
                parts.append(self._formula.either([guard ^ 1, self.holds(world, target, number, child, moment)]))
        return self._formula.both(parts)

    def same(self, spot, number, node, moment):
        """Return whether a view shows the same at a node and below it for a row of one id in both worlds."""
        key = (spot.at, number, node, moment)
        if key not in self._same:
            self._same[key] = self._find_same(spot, number, node, moment)
        return self._same[key]

    def _find_same(self, spot, number, node, moment):
        shown, ranges, children = self._views[number][node]
        parts = [spot.equal[column] for column in shown]
        for reference, child in children:
            alike = [self._formula.both([guard, self.same(target, number, child, moment)])
                     for guard, target in spot.common[moment].get(reference, [])]
            parts.append(self._formula.either(alike))
        return self._formula.both(parts)

    def demand_alike(self, spot, number):
        """Demand that a view shows the same for a row in both worlds, if its id is the same there."""
        first = self.holds(0, spot, number, 0, 0)
        second = self.holds(1, spot, number, 0, 0)
        for literals in ([first ^ 1, second], [first, second ^ 1], [first ^ 1, self.same(spot, number, 0, 0)]):
            self._formula.demand([spot.shared ^ 1] + literals)

    def identical(self, spot):
        """Return whether a row of one id, and all rows below it, are there and equal in both worlds."""
        parts = [spot.states[0][0].there, spot.states[1][0].there]
        parts.extend(list(spot.equal.values()))
        for alternatives in spot.common[0].values():
            parts.append(self._formula.either(
                [self._formula.both([guard, self.identical(target)]) for guard, target in alternatives]))
        return self._formula.both(parts)

    def leads(self, world, spot, path, goal):
        """Return whether a row is there and leads to that of the goal by a path."""
        if not path:
            return TRUE if spot.at == goal.at else FALSE
        state = spot.states[world][0]
        ways = [self._formula.both([guard, self.leads(world, target, path[1:], goal)])
                for guard, target in state.targets.get(path[0], [])]
        return self._formula.both([state.there, self._formula.either(ways)])


def by_nodes(view):
    """Return for each node of a view its shown columns, its ranges and its pairs (reference, child)."""
    found = [([], [], []) for node in view.nodes]
    for node, column in view.shown:
        found[node][0].append(column)
    for node, column, low, high in view.ranges:
        found[node][1].append((column, low, high))
    for child, (parent, reference, table) in enumerate(view.nodes):
        if child > 0:
            found[parent][2].append((reference, child))
    return found
