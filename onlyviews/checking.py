"""Whether a value is a refutation of a fault."""

from onlyviews.claims import NEVER, NO_ROW, OTHER_ID, OTHER_VALUE
from onlyviews.ground import AHEAD, BEHIND
from onlyviews.left import is_empty, is_met, only_left
from onlyviews.rulenames import ROOT

# The numbers of items of the tuples.
SIZES = {"root": 2, "at": 4, "fact": 3, "fault": 2, "false": 2, "empty": 3, "equal": 2}


def is_refutation(ground, facts, fault, value):
    """Return True if a value, which may be any, is a refutation of a fault behind some facts, otherwise False."""
    if not is_tree(value) or value[0] != "root":
        return False
    cases = root_cases(ground, facts, fault)
    if not is_list_of(value[1], len(cases)):
        return False
    left = list(zip(value[1], cases))
    while left:
        tree, case = left.pop()
        if not is_tree(tree):
            return False
        if tree[0] in ("false", "empty", "equal"):
            if not case.is_closed(tree):
                return False
            continue
        cases = case.split(tree)
        if not cases or not is_list_of(tree[-1], len(cases)):
            return False
        left.extend(list(zip(tree[-1], cases)))
    return True


def is_tree(value):
    """Return True if a value, which may be any, is a tuple that begins as one of the tuples of refutations."""
    if not isinstance(value, tuple) or not value or not isinstance(value[0], str):
        return False
    return value[0] in SIZES and len(value) == SIZES[value[0]]


def is_list_of(value, many):
    """Return True if a value, which may be any, is a list of so many items."""
    return isinstance(value, list) and len(value) == many


def is_number(value, many):
    """Return True if a value, which may be any, is an integer from 0 that is less than another one."""
    return isinstance(value, int) and not isinstance(value, bool) and 0 <= value < many


def root_cases(ground, facts, fault):
    """Return the list of the cases of what t is, in order."""
    found = [Case(ground, facts, fault, name) for name in ground.named[ground.table]]
    here, gone = Case(ground, facts, fault, ROOT), Case(ground, facts, fault, ROOT)
    gone.is_gone = True
    return found + [here, gone]


class Case:
    """What the cases tell that lead to a tree of a refutation.

    root is the name of the row that t is, and is_gone says that it is not there, where no change names it.
    """

    def __init__(self, ground, facts, fault, root):
        self._ground = ground
        self._facts = facts
        self._fault = fault
        self.root = root
        self.is_gone = False
        # The names of the rows to which references lead, by (name, reference).
        self._targets = {}
        # The conditions of the options that were told of facts, by their numbers, and of the fault, by None.
        self._options = {}

    def _fork(self):
        other = Case(self._ground, self._facts, self._fault, self.root)
        other.is_gone = self.is_gone
        other._targets = {key: self._targets[key] for key in self._targets}
        other._options = {key: self._options[key] for key in self._options}
        return other

    # Which rows the cases tell.

    def _row(self, place):
        """Return the name of the row at a place, or None if the cases do not tell it."""
        name = self.root if place[0] == ROOT else place[0]
        for reference in place[1]:
            name = self._target(name, reference, place[2])
            if name is None:
                return None
        return name

    def _target(self, name, reference, moment):
        rows = self._ground.parts[moment]
        if name in rows:
            return None if rows[name] is None else rows[name][reference]
        return self._targets.get((name, reference))

    def _is_there(self, name, moment):
        """Return True if a row is there at a moment."""
        rows = self._ground.parts[moment]
        if name in rows:
            return rows[name] is not None
        return not (name == ROOT and self.is_gone)

    def _is_behind(self):
        """Return True if t is there behind the batch."""
        return self._is_there(self.root, BEHIND)

    def _unnamed_row(self, word):
        """Return the name of the row that a refutation names by a value, which may be any, if the cases tell it, no
        change names it and it is there; otherwise None."""
        if not isinstance(word, str):
            return None
        first, *path = word.split(".")
        if first != ROOT and first not in self._ground.told_keys:
            return None
        name = self._row_by(first, path)
        if name is None or name in self._ground.parts[AHEAD] or not self._is_there(name, AHEAD):
            return None
        return name

    def _row_by(self, first, path):
        """Return the name of the row to which references lead ahead of the batch, or None; they may be any words."""
        name = self.root if first == ROOT else first
        for reference in path:
            if name is None or reference not in self._columns_of(name, False):
                return None
            name = self._target(name, reference, AHEAD)
        return name

    def _columns_of(self, name, is_plain):
        """Return the list of the plain columns or of the references of the table of a row."""
        columns = self._ground.schema.columns(self._ground.table_of(name))
        return [column for column, target in columns if (target is None) == is_plain]

    # The cases into which trees split this one.

    def split(self, tree):
        """Return the list of the cases of a tree that goes through some, or None if it may not stand here."""
        if tree[0] == "at":
            return self._split_at(tree[1], tree[2])
        if tree[0] == "fact":
            return self._split_fact(tree[1])
        return self._split_fault() if tree[0] == "fault" else None

    def _split_at(self, word, reference):
        name = self._unnamed_row(word)
        if name is None or not isinstance(reference, str) or reference not in self._columns_of(name, False):
            return None
        if (name, reference) in self._targets:
            return None
        own = f"{name}.{reference}"
        found = []
        for target in self._ground.steady[self._ground.table_of(own)] + [own]:
            case = self._fork()
            case._targets[name, reference] = target
            found.append(case)
        return found

    def _split_fact(self, number):
        if not is_number(number, len(self._facts)) or number in self._options:
            return None
        fact = self._facts[number]
        name = self._row(fact.place)
        if name is None or not self._is_there(name, AHEAD):
            return None
        return self._by_options(number, fact.options)

    def _split_fault(self):
        if None in self._options or self._fault.word == NO_ROW and not self._is_behind():
            return None
        return self._by_options(None, self._fault.options)

    def _by_options(self, number, options):
        """Return the list of the cases in which each of some options of a fact, or of the fault, is told."""
        found = []
        for option in options:
            case = self._fork()
            case._options[number] = [option]
            found.append(case)
        return found

    # What closes this case.

    def is_closed(self, tree):
        """Return True if a tree that goes through no cases may stand here."""
        if tree[0] == "empty":
            return self._is_empty(tree[1], tree[2])
        if tree[0] == "equal":
            return self._fault.word == OTHER_VALUE and self._is_equal(tree[1])
        if tree[1] is None:
            return self._is_fault_false()
        return is_number(tree[1], len(self._facts)) and self._is_fact_false(tree[1])

    def _is_fact_false(self, number):
        """Return True if the fact with a number cannot be by rows, or by a value that a change tells."""
        fact = self._facts[number]
        name = self._row(fact.place)
        if name is not None and fact.row_name is not None and (name == fact.row_name) != fact.is_yes:
            return True
        if name is not None and fact.number is not None:
            is_there = self._is_there(name, AHEAD)
            if is_there != fact.is_yes and (fact.is_yes or not fact.options):
                return True
        return self._is_any_broken(fact.conditions + self._options.get(number, []))

    def _is_fault_false(self):
        """Return True if the fault cannot be by rows, or by a value that a change tells."""
        fault = self._fault
        if fault.word == NEVER:
            return False
        if fault.has_row() and not self._is_behind():
            return True
        if fault.word == NO_ROW and self._is_behind() and not fault.options:
            return True
        if fault.word == OTHER_ID:
            name = self._row(fault.place)
            if name is not None and name == self._row(fault.given):
                return True
        return self._is_any_broken(fault.conditions + self._options.get(None, []))

    def _is_any_broken(self, conditions):
        """Return True if a value that a change tells does not meet one of some conditions."""
        for place, column, low, high, inside in conditions:
            value = self._told_value(place, column)
            if value is not None and not is_met(value, low, high, inside):
                return True
        return False

    def _told_value(self, place, column):
        """Return the value of a column of the row at a place if a change tells it, otherwise None."""
        name, rows = self._row(place), self._ground.parts[place[2]]
        return None if name is None or rows.get(name) is None else rows[name][column]

    def _is_empty(self, word, column):
        name = self._unnamed_row(word)
        if name is None or not isinstance(column, str) or column not in self._columns_of(name, True):
            return False
        return is_empty(self._conditions(name, column))

    def _conditions(self, name, column):
        """Return the list of the conditions (low, high, inside) that the cases tell for a column of a row."""
        told = list(self._fault.conditions)
        for fact in self._facts:
            told.extend(fact.conditions)
        for options in self._options.values():
            told.extend(options)
        return [(low, high, inside) for place, other, low, high, inside in told
                if other == column and self._row(place) == name]

    def _is_equal(self, number):
        """Return True if the two values of the fault are one, or if just an integer is left for each of them."""
        values = [self._value(self._fault.place, self._fault.column),
                  self._value(self._fault.given, self._fault.given_column)]
        if None in values:
            return False
        if number is None:
            return values[0] == values[1]
        if not isinstance(number, int) or isinstance(number, bool):
            return False
        return [self._left_of(value) for value in values] == [number, number]

    def _value(self, place, column):
        """Return the told integer in a column of the row at a place, or else (name, column), or None."""
        name = self._row(place)
        if name is None or not self._is_there(name, place[2]):
            return None
        return self._told_value(place, column) if name in self._ground.parts[place[2]] else (name, column)

    def _left_of(self, value):
        """Return the integer that alone is left for a value, or None."""
        return only_left(self._conditions(value[0], value[1])) if isinstance(value, tuple) else value
