"""Cases of what cannot be seen of a row and the rows around it, and what facts and faults tell in them.

A closing (tree, used) is a tree that refutes a case, and the decisions on which it rests, each a bit of an integer.
"""

from onlyviews.claims import NO_ROW, OTHER_ID, OTHER_INTEGER, OTHER_VALUE
from onlyviews.ground import AHEAD, BEHIND
from onlyviews.left import is_empty, is_met, only_left
from onlyviews.rulenames import ROOT

# What may wait until the cases tell the rows at places: a fact, a condition, that two ids are the same, or nothing but
# that the row is told.
ROW = "row"
NUMBER = "number"
SAME_ID = "same id"
NEED = "need"
FAULT_FALSE = ("false", None)


class Situation:
    """The cases that were told so far, and what facts and a fault tell in them.

    root is the name of the row that t is; is_ahead and is_behind say whether it is there. targets tells for (name,
    reference) the name of the row to which this leads, and the bit of the decision. bounds has for (name, column) the
    conditions of the value, with the decisions on which each rests.
    """

    def __init__(self, ground, root, is_there):
        self.ground = ground
        self.root = root
        self.is_ahead = is_there
        self.is_behind = is_there
        if root in ground.parts[AHEAD]:
            self.is_ahead = ground.parts[AHEAD][root] is not None
            self.is_behind = ground.parts[BEHIND][root] is not None
        self.targets = {}
        self.bounds = {}
        # By (name, reference), lists of pairs (place, thing) that wait until this reference is told.
        self.pending = {}
        # Pairs (number of the fact or None, options): one of the options holds.
        self.choices = []
        # The fault that two values are unlike, where it is this one.
        self.unlike = None

    def fork(self):
        """Return a situation in which the same was told."""
        other = Situation(self.ground, self.root, self.is_ahead)
        other.targets = {key: self.targets[key] for key in self.targets}
        other.bounds = {key: self.bounds[key] for key in self.bounds}
        other.pending = {key: self.pending[key] for key in self.pending}
        other.choices = list(self.choices)
        other.unlike = self.unlike
        return other

    def follow(self, place):
        """Return (name, reference, used): the name of the row at a place, and None; or the name of the last row on the
        way that is told, and the reference where it ends; or None and None, if the way ends at a row that is not there.
        """
        name = self.root if place[0] == ROOT else place[0]
        rows = self.ground.parts[place[2]]
        used = 0
        for reference in place[1]:
            if name in rows:
                if rows[name] is None:
                    return None, None, used
                name = rows[name][reference]
            elif (name, reference) in self.targets:
                name, bit = self.targets[name, reference]
                used |= bit
            elif name == ROOT and not self.is_ahead:
                return None, None, used
            else:
                return name, reference, used
        return name, None, used

    def is_there(self, name):
        """Return True if the row with a name is there ahead of the batch."""
        if name == ROOT:
            return self.is_ahead
        rows = self.ground.parts[AHEAD]
        return name not in rows or rows[name] is not None

    def add_fact(self, number, fact):
        """Add the fact with a number; return a closing if it cannot be, or None."""
        closings = [self.settle(fact.place, (ROW, number, fact))]
        closings.extend([self.settle(condition[0], (NUMBER, number, condition, 0)) for condition in fact.conditions])
        return least_closing(closings)

    def add_fault(self, fault):
        """Add the fault; return a closing if it cannot be, or None."""
        if fault.has_row() and not self.is_behind:
            return FAULT_FALSE, 0
        closings = [self.settle(condition[0], (NUMBER, None, condition, 0)) for condition in fault.conditions]
        if fault.word == NO_ROW and self.is_behind and not fault.options:
            return FAULT_FALSE, 0
        if fault.word == OTHER_INTEGER or fault.word == NO_ROW and self.is_behind:
            self._choose_among(None, fault.options)
        elif fault.word == OTHER_ID:
            closings.append(self.settle(fault.place, (SAME_ID, fault)))
        elif fault.word == OTHER_VALUE:
            self.unlike = fault
            for place in (fault.place, fault.given):
                self.settle(place, (NEED,))
            closings.append(self.settle_unlike())
        return least_closing(closings)

    def _choose_among(self, number, options):
        """Let one of some options of a fact, or of the fault for None, hold."""
        self.choices.append((number, options))
        for option in options:
            self.settle(option[0], (NEED,))

    def add_option(self, number, condition, bit):
        """Add a condition by a decision for the fact with a number, or the fault for None; return a closing or None."""
        return least_closing([self.settle(condition[0], (NUMBER, number, condition, bit)), self.settle_unlike()])

    def lead(self, name, reference, target, bit):
        """Let a row lead to another one by a decision; return a closing if this cannot be, or None."""
        self.targets[name, reference] = (target, bit)
        freed = self.pending.pop((name, reference))
        closings = [self.settle(place, thing) for place, thing in freed]
        closings.append(self.settle_unlike())
        return least_closing(closings)

    def settle(self, place, thing):
        """Use what is said of the row at a place, or let it wait; return a closing or None."""
        if thing[0] == SAME_ID:
            return self._settle_id(thing)
        name, reference, used = self.follow(place)
        if reference is not None:
            self._wait(name, reference, place, thing)
        if name is None or reference is not None or thing[0] == NEED:
            return None
        if thing[0] == ROW:
            return self._settle_row(name, used, thing[1], thing[2])
        return self._settle_number(name, used | thing[3], thing[1], thing[2])

    def _wait(self, name, reference, place, thing):
        """Let a thing about the row at a place wait until a reference of a row is told."""
        self.pending[name, reference] = self.pending.get((name, reference), []) + [(place, thing)]

    def _settle_row(self, name, used, number, fact):
        closing = (("false", number), used)
        if fact.row_name is not None:
            return None if (name == fact.row_name) == fact.is_yes else closing
        if fact.number is None:
            return None
        if fact.is_yes:
            return None if self.is_there(name) else closing
        if not self.is_there(name):
            return None
        if not fact.options:
            return closing
        self._choose_among(number, fact.options)
        return None

    def _settle_number(self, name, used, number, condition):
        place, column, low, high, inside = condition
        rows = self.ground.parts[place[2]]
        if name in rows:
            if rows[name] is None or is_met(rows[name][column], low, high, inside):
                return None
            return ("false", number), used
        if name == ROOT and not self.is_ahead:
            return None
        bounds = self.bounds.get((name, column), []) + [(low, high, inside, used)]
        self.bounds[name, column] = bounds
        if not is_empty(bounds):
            return None
        return ("empty", name, column), all_used(without_idle(bounds))

    def _settle_id(self, thing):
        fault = thing[1]
        ends = [self.follow(place) for place in (fault.place, fault.given)]
        for place, (name, reference, used) in zip((fault.place, fault.given), ends):
            if reference is not None:
                self._wait(name, reference, place, thing)
                return None
        if ends[0][0] is None or ends[0][0] != ends[1][0]:
            return None
        return FAULT_FALSE, ends[0][2] | ends[1][2]

    def settle_unlike(self):
        """Return a closing if the fault is that two values are unlike, and they cannot be, otherwise None."""
        fault = self.unlike
        if fault is None:
            return None
        first, second = self.value_at(fault.place, fault.column), self.value_at(fault.given, fault.given_column)
        if first is None or second is None:
            return None
        used = first[2] | second[2]
        if first[0] == second[0]:
            return ("equal", None), used
        alone = only_left(first[1])
        if alone is None or alone != only_left(second[1]):
            return None
        return ("equal", alone), used | first[3] | second[3]

    def value_at(self, place, column):
        """Return a tuple for the value of a column of the row at a place, or None if the row is not told.

        The tuple has what tells the value from others, the conditions of the value, the decisions on which the row
        rests, and those on which the conditions do.
        """
        name, reference, used = self.follow(place)
        if name is None or reference is not None:
            return None
        rows = self.ground.parts[place[2]]
        if name in rows:
            if rows[name] is None:
                return None
            value = rows[name][column]
            return value, [(value, value, True, 0)], used, 0
        if name == ROOT and not self.is_ahead:
            return None
        bounds = self.bounds.get((name, column), [])
        return (name, column), bounds, used, all_used(bounds)

    def many_open(self, options):
        """Return how many of some options may hold, or None if one of them surely does."""
        many = 0
        for place, column, low, high, inside in options:
            first, bounds, used, others = self.value_at(place, column)
            if (low, high, inside) in [bound[:3] for bound in bounds]:
                return None
            if not is_empty(bounds + [(low, high, inside, 0)]):
                if not isinstance(first, tuple):
                    return None
                many += 1
        return many


def least_closing(closings):
    """Return the closing that rests on the least decisions, the last ones above all, or None if there is none.

    One that says that the fault cannot be comes first: where it cannot be by rows, ranges that hold because it is need
    not be counted by who checks that no integer is left.
    """
    found = [closing for closing in closings if closing is not None]
    return min(found, key=lambda closing: (closing[0] != FAULT_FALSE, closing[1])) if found else None


def without_idle(bounds):
    """Return conditions that cannot all be met, without some that are not needed for this."""
    kept = bounds
    for bound in sorted(bounds, key=lambda each: -each[3]):
        fewer = [each for each in kept if each != bound]
        if is_empty(fewer):
            kept = fewer
    return kept


def all_used(bounds):
    """Return the decisions on which some conditions rest."""
    used = 0
    for bound in bounds:
        used |= bound[3]
    return used
