"""Right rules.

A rule is made from its root on. At each place there are samples, bases with an id that lead there; a leaf that fits all
of them is tried, until it is right, or there is another sample. If no leaf fits, a question tells some of them apart.
"""

from onlyviews.answering import can_answer
from onlyviews.claims import NEVER, NO_ROW, NONE, bare_fault, id_fault, make_fact, value_fault
from onlyviews.ground import Ground
from onlyviews.reach import Reach, question_key
from onlyviews.refuting import all_roots
from onlyviews.rules import SIZES
from onlyviews.samples import Sample

NEVER_LEAF = ("never",)
NONE_LEAF = ("none",)


def make_rule(views, changes, view):
    """Return a right rule for kept views, a batch and a view, or None if there is none."""
    if not can_answer(views, view, changes):
        return None
    ground = Ground(views, changes, view)
    return make_tree(Branch(ground, changes, all_roots(ground), {}, []))


def make_tree(branch):
    """Return a right tree for a branch."""
    found = None
    while found is None:
        found = branch.grow()
    if found[0] not in SIZES:
        return found
    yes = make_tree(branch.answered(found, True))
    return joined(found, yes, make_tree(branch.answered(found, False)))


def joined(question, yes, no):
    """Return the tree of a question with its parts, or one of these if the question is not needed."""
    if yes == NEVER_LEAF or yes[0] not in SIZES and yes == no:
        return no
    if no == NEVER_LEAF and (question[0] != "in" or not is_used(question, yes)):
        return yes
    return question + (yes, no)


class Branch:
    """A place of a rule for kept views, a batch and a view: the cases there, and samples that lead there."""

    def __init__(self, ground, changes, roots, asked, samples):
        self._ground = ground
        self._changes = changes
        self._roots = roots
        # Pairs of the answers that lead here and their questions, by the keys of these.
        self._asked = asked
        self._samples = samples
        self._proved = {}

    def answered(self, question, answer):
        """Return the branch behind the answer to a question."""
        asked = {key: self._asked[key] for key in self._asked}
        asked[question_key(self._ground, question)] = (answer, question)
        samples = [sample for sample in self._samples if sample.answer(question) == answer]
        roots = self._roots.extended(make_fact(self._ground, question, answer))
        return Branch(self._ground, self._changes, roots, asked, samples)

    def grow(self):
        """Return a right leaf, or a question without its parts, or None if there is one more sample."""
        if not self._samples:
            return NEVER_LEAF if self._is_refuted(NEVER, bare_fault(self._ground, NEVER)) else None
        rows = [sample.row is not None for sample in self._samples]
        if not any(rows):
            return NONE_LEAF if self._is_refuted(NONE, bare_fault(self._ground, NONE)) else None
        reach = Reach(self._ground, self._asked, self._samples)
        if not all(rows):
            return self._best_question(reach, pairs_of(rows))
        if not self._is_refuted(NO_ROW, bare_fault(self._ground, NO_ROW)):
            return None
        parts = [reach.id_parts(node) for node in range(len(self._ground.view.nodes))]
        parts.extend([reach.value_parts(at) for at in range(len(self._ground.view.shown))])
        pairs = unlike_pairs(parts, len(self._samples))
        return self._best_question(reach, pairs) if pairs else self._row_leaf(parts)

    def _row_leaf(self, parts):
        """Return a leaf, or a question that must be asked for a name, or None if there is one more sample; parts are
        those that may stand at each place of the leaf, with what they need and which samples they fit."""
        many = len(self._ground.view.nodes)
        told = [self._part(id_fault, node, found) for node, found in enumerate(parts[:many])]
        told.extend([self._part(value_fault, at, found) for at, found in enumerate(parts[many:])])
        if None in told:
            return None
        needs = [question for part, question in told if question is not None]
        if needs:
            return needs[0]
        chosen = [part for part, question in told]
        return "row", tuple(chosen[:many]), tuple(chosen[many:])

    def _part(self, make_fault, at, parts):
        """Return (name or integer, None) for a place of the leaf, or (None, question) with one that must be asked
        ahead, or None if there is one more sample."""
        fit = [(part, needs) for part, needs, fits in parts if all(fits)]
        for part, needs in fit:
            if not needs:
                fault = make_fault(self._ground, at, part)
                return (part, None) if self._is_refuted((fault.word, at, part), fault) else None
        return None, fit[0][1][0]

    def _is_refuted(self, key, fault):
        """Return True if a fault cannot be; otherwise add a sample in which it is."""
        if key not in self._proved:
            refutation, situation = self._roots.search(fault)
            if refutation is None:
                self._samples.append(Sample(self._ground, self._changes, situation))
                return False
            self._proved[key] = True
        return True

    def _best_question(self, reach, pairs):
        """Return the question that tells most pairs of samples apart, or one that must be asked ahead of it."""
        questions = reach.questions()
        # What rows show to which t does not lead may tell samples apart by chance.
        near = [pair for pair in questions if reach.is_near(pair[0])]
        best = self._best_of(near, pairs) or self._same_row(near) or self._best_of(questions, pairs)
        # Where no question tells samples apart, kept views do not either.
        assert best is not None
        return first_asked(reach, best)

    def _same_row(self, questions):
        """Return that of some pairs (question, needs) by which a row is the same told one in all samples, or None."""
        for question, needs in questions:
            if question[0] in ("is", "same") and all([sample.answer(question) for sample in self._samples]):
                return question, needs
        return None

    def _best_of(self, questions, pairs):
        """Return that of some pairs (question, needs) that tells most pairs of samples apart, or None."""
        best, most = None, 0
        for question, needs in questions:
            answers = [sample.answer(question) for sample in self._samples]
            many = len([first for first, second in pairs if answers[first] != answers[second]])
            if many > most:
                best, most = (question, needs), many
        return best


def first_asked(reach, pair):
    """Return the question that is to be asked ahead of one with its needs, or this one."""
    question, needs = pair
    # What views show of a row that the batch changes is not what is there behind it. If this were asked later, the same
    # questions would have to follow both answers.
    identities = reach.identities(question) if question[0] in ("in", "below") else []
    return first_asked(reach, identities[0]) if identities else (needs + (question,))[0]


def pairs_of(marks):
    """Return the pairs of the numbers of a true mark and a false one."""
    return [(first, second) for first, mark in enumerate(marks) if mark for second, other in enumerate(marks)
            if not other]


def unlike_pairs(parts, many):
    """Return pairs of numbers of so many samples, of which no leaf fits all, by the parts for each place of the leaf;
    none if a leaf fits them all."""
    found = []
    for told in parts:
        marks = [fits for part, needs, fits in told]
        best = max(marks, key=lambda fits: sum(fits)) if marks else []
        if any(best):
            # A part that fits most samples is probably right for these.
            found.extend(pairs_of(best))
        else:
            found.extend([(first, second) for second in range(many) for first in range(second)])
    return found


def is_used(question, tree):
    """Return True if a tree has a name that may stand by the answer yes to a question in."""
    beginning = f"{question[2]}/{question[1]}"
    left = [tree]
    while left:
        told = left.pop()
        if told[0] in SIZES:
            left.extend(list(told[-2:]))
        words = told[1:-2] if told[0] in SIZES else [word for part in told[1:] for word in part]
        if any([isinstance(word, str) and word.startswith(beginning) for word in words]):
            return True
    return False
