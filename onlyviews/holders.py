"""Holders: contents of kept views that follow batches by rules that were shown to be right."""

from onlyviews.alike import all_contents
from onlyviews.faults import InvalidRule, NoRule, NotOffered, NotShown
from onlyviews.reasons import are_reasons
from onlyviews.rules import is_rule, told_contents


class Holder:
    """Contents of kept views, the batches that were taken, and rules for batches and views."""

    def __init__(self, views, base=None):
        self._views = list(views)
        # The contents ahead of the first batch, and behind each one.
        self._states = [[{} for view in views] if base is None else all_contents(views, base)]
        self._batches = []
        self._rules = {}

    def __len__(self):
        return len(self._rules)

    def contents(self, index):
        """Return the contents of a kept view."""
        return {key: row for key, row in self._states[-1][index].items()}

    def history(self):
        """Return the list of the batches that were taken."""
        return [list(batch) for batch in self._batches]

    def offer(self, changes, view, rule, reasons):
        """Keep a rule for a batch and a view, or raise InvalidRule() or NotShown()."""
        if not is_rule(self._views, changes, view, rule):
            raise InvalidRule()
        if not are_reasons(self._views, changes, view, rule, reasons):
            raise NotShown()
        self._rules[rule_key(changes, view)] = rule

    def take(self, changes):
        """Take a batch, or raise NoRule(index) for the first kept view without a rule for it."""
        for index, view in enumerate(self._views):
            if rule_key(changes, view) not in self._rules:
                raise NoRule(index)
        told = [self._told(changes, view) for view in self._views]
        self._states.append(told)
        self._batches.append(list(changes))

    def ask(self, view, changes=()):
        """Return the contents of a view behind a batch, or raise NotOffered()."""
        if rule_key(changes, view) not in self._rules:
            raise NotOffered()
        return self._told(changes, view)

    def _told(self, changes, view):
        """Return the contents of a view behind a batch by the rule for these."""
        return told_contents(self._views, self._states[-1], changes, view, self._rules[rule_key(changes, view)])

    def forget(self, view, changes=()):
        """Forget the rule for a batch and a view, or raise NotOffered()."""
        if rule_key(changes, view) not in self._rules:
            raise NotOffered()
        del self._rules[rule_key(changes, view)]

    def back(self, many):
        """Undo the last batches."""
        left = len(self._batches) - many
        self._batches = self._batches[:left]
        self._states = self._states[:left + 1]

    def fork(self):
        """Return a holder in the same state that is independent of this one."""
        other = Holder(self._views)
        other._states = list(self._states)
        other._batches = list(self._batches)
        other._rules = {key: self._rules[key] for key in self._rules}
        return other


def rule_key(changes, view):
    """Return what tells a batch and a view from others."""
    return tuple(changes), str(view.schema), str(view)
