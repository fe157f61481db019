"""Whether a rule is right, and a base and an id for which it is not."""

from onlyviews.ground import Ground
from onlyviews.models import Model
from onlyviews.refuting import refute_rule


def is_right(views, changes, view, rule):
    """Return True if a rule is right for kept views, a batch and a view, otherwise False."""
    return refute_rule(Ground(views, changes, view), rule)[1] is None


def wrong_spot(views, changes, view, rule):
    """Return None if a rule is right, otherwise a tuple of a base and an id for which it is not."""
    wrong = refute_rule(Ground(views, changes, view), rule)[1]
    if wrong is None:
        return None
    model = Model(wrong[0])
    return model.base(), model.root_id()
