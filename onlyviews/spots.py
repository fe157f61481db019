"""Spots: rows of one or two unknown bases, the worlds, of which only literals are known."""

from onlyviews.formulas import FALSE, TRUE
from onlyviews.schemas import LARGEST


class Spot:
    """A row in each world: of one id in all of them where shared is true.

    states[world][moment] is its state ahead of the batch (0) and behind it (1); equal tells for each used plain column
    whether the values of both worlds are equal, and common[moment] for each followed reference with which guards both
    lead to the same spot.
    """

    def __init__(self, at, table, name, shared, states):
        self.at = at
        self.table = table
        # The id, or None where any id may be taken.
        self.name = name
        self.shared = shared
        self.states = states
        self.equal = {}
        self.common = ({}, {})


class State:
    """Whether a row is there, literals of its values, and (guard, spot) for where its references lead."""

    def __init__(self, there):
        self.there = there
        self.numbers = {}
        self.targets = {}


def cuts_of(views):
    """Return the dict from (table, column) to the ascending least values that the ranges tell from the next lower."""
    found = {}
    for view in views:
        for node, column in view.shown:
            found.setdefault((view.nodes[node][2], column), [])
        for node, column, low, high in view.ranges:
            told = found.setdefault((view.nodes[node][2], column), [])
            told.extend([] if low is None else [low])
            told.extend([] if high is None else [high + 1])
    return {key: sorted(set(told)) for key, told in found.items()}


def followed_by(views):
    """Return the dict with the (table, reference) that views follow, and True."""
    return {(view.nodes[parent][2], reference): True for view in views for parent, reference, table in view.nodes[1:]}


def known_number(cuts, value):
    """Return literals of a number for each cut, whether the value is not below it, for a known value."""
    return [TRUE if value >= cut else FALSE for cut in cuts]


def open_number(formula, cuts):
    """Return literals of a number that is not known."""
    number = [formula.variable() for cut in cuts]
    for at in range(1, len(number)):
        formula.demand([number[at] ^ 1, number[at - 1]])
    return number


def equal_number(formula, cuts, first, second):
    """Return the literal that says that two numbers have the same value."""
    equal = formula.variable(True)
    for one, other in zip(first, second):
        formula.demand([equal ^ 1, one ^ 1, other])
        formula.demand([equal ^ 1, one, other ^ 1])
    for at in range(1, len(cuts)):
        # Between neighbouring cuts there is one integer, so numbers there are equal.
        if cuts[at] - cuts[at - 1] == 1:
            formula.demand([equal, first[at - 1] ^ 1, first[at], second[at - 1] ^ 1, second[at]])
    return equal


def within(cuts, number, low, high):
    """Return the literals that are all true exactly if a range with these ends holds for a number."""
    found = []
    if low is not None:
        found.append(number[cuts.index(low)])
    if high is not None:
        found.append(number[cuts.index(high + 1)] ^ 1)
    return found


def cell(formula, cuts, number):
    """Return the least and the greatest value that a number may have by the values that were found."""
    low, high = -LARGEST, LARGEST
    for cut, literal in zip(cuts, number):
        if formula.is_true(literal):
            low = cut
        else:
            high = min(high, cut - 1)
    return low, high


def near_zero(low, high):
    """Return the integer from low to high that is nearest to 0."""
    return min(max(low, 0), high)
