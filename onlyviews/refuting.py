"""The search for refutations of the faults of a rule, or for a situation in which one is."""

from onlyviews.claims import make_fact, make_faults
from onlyviews.rulenames import ROOT
from onlyviews.rules import SIZES
from onlyviews.situations import Situation


class Roots:
    """The cases of a root, in order: for each its situation by the facts so far, or a tree that refutes these."""

    def __init__(self, ground, many, cases, trees):
        """Take the number of facts, and for each case its situation, and the tree that refutes it or None."""
        self.ground = ground
        self._many = many
        self._cases = cases
        self._trees = trees

    def extended(self, fact):
        """Return these cases with one more fact."""
        cases, trees = [], []
        for case, tree in zip(self._cases, self._trees):
            grown = case.fork()
            closing = grown.add_fact(self._many, fact) if tree is None else (tree, 0)
            cases.append(grown)
            trees.append(None if closing is None else closing[0])
        return Roots(self.ground, self._many + 1, cases, trees)

    def narrowed(self):
        """Return these cases, all of which are refuted that can be by facts alone."""
        trees = []
        for case, tree in zip(self._cases, self._trees):
            closing = refuted(case, 0)[0] if tree is None else (tree, 0)
            trees.append(None if closing is None else closing[0])
        return Roots(self.ground, self._many, self._cases, trees)

    def search(self, fault):
        """Return (refutation, None), or (None, situation) with a situation in which a fault is."""
        trees = []
        for case, tree in zip(self._cases, self._trees):
            closing, found = (tree, 0), None
            if tree is None:
                grown = case.fork()
                closing = grown.add_fault(fault)
                if closing is None:
                    closing, found = refuted(grown, 0)
            if closing is None:
                return None, found
            # A tree that refutes facts alone stands in several refutations.
            trees.append(copied(closing[0]))
        return ("root", trees), None


def all_roots(ground):
    """Return the cases of a root without facts."""
    cases = [Situation(ground, name, True) for name in ground.named[ground.table]]
    cases.extend([Situation(ground, ROOT, True), Situation(ground, ROOT, False)])
    return Roots(ground, 0, cases, [None for case in cases])


def refute_rule(ground, rule):
    """Return (reasons, None), or (None, (situation, fault)) with a fault and a situation in which it is."""
    found = []
    # The trees to look at, the last one first, with the cases of the root there.
    left = [(rule, all_roots(ground))]
    while left:
        tree, roots = left.pop()
        if tree[0] in SIZES:
            left.extend([(tree[-1], roots.extended(make_fact(ground, tree, False))),
                         (tree[-2], roots.extended(make_fact(ground, tree, True)))])
        else:
            trees, wrong = refute_leaf(roots, tree)
            if trees is None:
                return None, wrong
            found.append(trees)
    return found, None


def refute_leaf(roots, leaf):
    """Return (refutations, None) of the faults of a leaf, or (None, (situation, fault))."""
    found = []
    narrowed = roots.narrowed() if leaf[0] == "row" else roots
    for fault in make_faults(roots.ground, leaf):
        tree, situation = narrowed.search(fault)
        if tree is None:
            return None, (situation, fault)
        found.append(tree)
    return found, None


def copied(tree):
    """Return a tree with new lists."""
    return tree[:-1] + ([copied(part) for part in tree[-1]],) if isinstance(tree[-1], list) else tree


def refuted(situation, depth):
    """Return (closing, None) with one that refutes a situation, or (None, situation) with a case that cannot be."""
    split = find_split(situation)
    if split is None:
        return None, situation
    bit = 1 << depth
    trees = [None for case in split.cases]
    used = 0
    for at in split.order():
        grown = situation.fork()
        closing = split.enter(grown, at, bit)
        if closing is None:
            closing, found = refuted(grown, depth + 1)
            if closing is None:
                return None, found
        if not closing[1] & bit:
            # The case plays no part, so that the split is not needed.
            return closing, None
        trees[at] = closing[0]
        used |= closing[1]
    # What rests on this split rests also on those that tell its row: places were followed through these.
    return (split.head + (trees,), used ^ bit), None


class Leading:
    """A split by the rows to which a reference of a row may lead."""

    def __init__(self, situation, name, reference):
        ground = situation.ground
        own = f"{name}.{reference}"
        self._from = (name, reference)
        self.cases = ground.steady[ground.table_of(own)] + [own]
        self.head = ("at", name, reference)

    def order(self):
        """Return the numbers of the cases, beginning with the row of its own, of which the least is told."""
        return list(reversed(range(len(self.cases))))

    def enter(self, situation, at, bit):
        """Enter a case; return a closing or None."""
        return situation.lead(self._from[0], self._from[1], self.cases[at], bit)


class Choosing:
    """A split by the options of a fact, or of the fault."""

    def __init__(self, choice):
        self._choice = choice
        self._fact_number, self.cases = choice
        self.head = ("fault",) if self._fact_number is None else ("fact", self._fact_number)

    def order(self):
        """Return the numbers of the cases, beginning with the greater values beside integers below 0: of two cases in
        which values are less or greater than an integer, the first one must not lead out of all bounds."""
        numbers = list(range(len(self.cases)))
        high = self.cases[0][3]
        return list(reversed(numbers)) if self.cases[0][4] and high < 0 else numbers

    def enter(self, situation, at, bit):
        """Enter a case; return a closing or None."""
        situation.choices = [choice for choice in situation.choices if choice != self._choice]
        return situation.add_option(self._fact_number, self.cases[at], bit)


def find_split(situation):
    """Return a split of a situation, or None if no more must be told."""
    if situation.pending:
        splits = [Leading(situation, name, reference) for name, reference in situation.pending]
        return min(splits, key=lambda split: len(split.cases))
    found, least = None, None
    for choice in situation.choices:
        many = situation.many_open(choice[1])
        if many is not None and (found is None or many < least):
            found, least = choice, many
    return None if found is None else Choosing(found)
