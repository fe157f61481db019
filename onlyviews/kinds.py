"""Kinds of changes, and which views let all changes of some kinds be followed."""

from itertools import combinations

from onlyviews.searching import find_pair

MOST_VIEWS = 3


def kinds(schema):
    """Return the list of all kinds: for each table insert, delete, and set for each column."""
    found = []
    for table in schema.tables:
        found.extend([("insert", table), ("delete", table)])
        found.extend([("set", table, name) for name, target in schema.columns(table)])
    return found


def hindrance(views, index, kind):
    """Return None if a kind can be followed for a kept view, otherwise a change of this kind that cannot."""
    wanted = views[index]
    found = find_pair(views, [any_change(wanted.schema, kind)], wanted, [])
    return None if found is None else found[2][0]


def any_change(schema, kind):
    """Return a change of a kind, with strings for values that may be chosen.

    Its references lead to different rows: a row to which two of them led could as well be there twice.
    """
    old = any_row(schema, kind[1], None)
    if kind[0] != "set":
        return kind[0], kind[1], old
    return kind[0], kind[1], old, any_row(schema, kind[1], kind[2])


def any_row(schema, table, changed):
    """Return a row with id 0 and any parts, those of a changed column other than without one."""
    columns = schema.columns(table)
    row = [0]
    for at, (name, target) in enumerate(columns):
        if target is None:
            row.append("new" if name == changed else "old")
        else:
            row.append(len(columns) + at if name == changed else at)
    return tuple(row)


def is_self_keeping(views, wanted):
    """Return True if kept views are self-keeping for a list of kinds, otherwise False."""
    for kind in wanted:
        for index in range(len(views)):
            if hindrance(views, index, kind) is not None:
                return False
    return True


def least_helpers(views, candidates, wanted):
    """Return the indexes of as few candidates as make the views self-keeping for kinds, or None."""
    for many in range(MOST_VIEWS - len(views) + 1):
        for choice in combinations(range(len(candidates)), many):
            if is_self_keeping(list(views) + [candidates[at] for at in choice], wanted):
                return choice
    return None
