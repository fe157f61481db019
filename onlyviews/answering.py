"""Whether kept views answer a view behind a batch, two bases that show that they do not, and the answer."""

from onlyviews.deciding import is_told_apart
from onlyviews.faults import NotAnswered
from onlyviews.fitting import asked_contents
from onlyviews.searching import find_pair


def can_answer(views, view, changes=()):
    """Return True if kept views answer a view behind a batch, otherwise False."""
    return find_pair(views, changes, view, []) is None


def gap(views, view, changes=()):
    """Return None if kept views answer a view behind a batch, otherwise two bases that show that they do not."""
    found = find_pair(views, changes, view, [])
    return None if found is None else found[:2]


def is_gap(views, view, value, changes=()):
    """Return True if a value, which may be any, is a tuple of two bases that show that views do not answer a view."""
    return is_told_apart(views, changes, view, value)


def answered(views, contents, view, changes=()):
    """Return the contents of a view behind a batch by those of kept views ahead of it, or raise NotAnswered()."""
    if not can_answer(views, view, changes):
        raise NotAnswered()
    return asked_contents(views, contents, changes, view)
