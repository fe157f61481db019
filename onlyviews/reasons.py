"""Reasons of rules: for each fault of each leaf a refutation, and whether a value is one."""

from onlyviews.checking import is_refutation
from onlyviews.claims import make_fact, make_faults
from onlyviews.ground import Ground
from onlyviews.refuting import refute_rule
from onlyviews.rules import SIZES


def reasons(views, changes, view, rule):
    """Return reasons of a rule, or None if it is not right."""
    return refute_rule(Ground(views, changes, view), rule)[0]


def are_reasons(views, changes, view, rule, value):
    """Return True if a value, which may be any, is reasons of a rule, otherwise False."""
    ground = Ground(views, changes, view)
    leaves = leaves_of(ground, rule)
    if not isinstance(value, list) or len(value) != len(leaves):
        return False
    for (facts, leaf), trees in zip(leaves, value):
        faults = make_faults(ground, leaf)
        if not isinstance(trees, list) or len(trees) != len(faults):
            return False
        for fault, tree in zip(faults, trees):
            if not is_refutation(ground, facts, fault, tree):
                return False
    return True


def leaves_of(ground, rule):
    """Return the list of pairs (facts, leaf) of a rule, in the order of its text."""
    found = []
    # The trees to look at, the last one first, with the facts that lead there.
    left = [(rule, [])]
    while left:
        tree, facts = left.pop()
        if tree[0] in SIZES:
            left.extend([(tree[-1], facts + [make_fact(ground, tree, False)]),
                         (tree[-2], facts + [make_fact(ground, tree, True)])])
        else:
            found.append((facts, tree))
    return found
