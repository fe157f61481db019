"""Whether a batch can be followed for a kept view, and evidence that it cannot."""

from onlyviews.alike import difference
from onlyviews.bases import Base
from onlyviews.searching import find_pair
from onlyviews.views import contents


def can_follow(views, changes, index):
    """Return True if a batch can be followed for a kept view, otherwise False."""
    return find_pair(views, changes, views[index], []) is None


def doubt(views, changes, index):
    """Return None if a batch can be followed for a kept view, otherwise evidence that it cannot."""
    found = find_pair(views, changes, views[index], [])
    return None if found is None else found[:2]


def is_doubt(views, changes, index, value):
    """Return True if a value, which may be any, is evidence that a batch cannot be followed."""
    return is_told_apart(views, changes, views[index], value)


def is_told_apart(views, changes, wanted, value):
    """Return True if a value, which may be any, is a tuple of two bases that are alike for kept views and allow a
    batch, with different contents of the wanted view behind it."""
    if not is_pair_of_bases(wanted.schema, value):
        return False
    first, second = value
    if not first.is_allowed(changes) or not second.is_allowed(changes):
        return False
    if difference(views, first, second) is not None:
        return False
    return contents_behind(wanted, first, changes) != contents_behind(wanted, second, changes)


def is_pair_of_bases(schema, value):
    """Return True if a value, which may be any, is a tuple of two bases of a schema."""
    if not isinstance(value, tuple) or len(value) != 2:
        return False
    return all([isinstance(base, Base) and base.schema == schema for base in value])


def contents_behind(view, base, changes):
    """Return the contents of a view behind a batch that a base allows."""
    later = base.fork()
    later.make(changes)
    return contents(view, later)
