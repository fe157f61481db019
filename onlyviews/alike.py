"""What kept views tell apart: the ends of their ranges, their columns, and their contents in two bases."""

from onlyviews.views import contents


def ends(views):
    """Return the dict from (table, column) to the ascending ends of ranges, for columns with ranges."""
    found = {}
    for view in views:
        for node, column, low, high in view.ranges:
            told = found.setdefault((view.nodes[node][2], column), [])
            told.extend([end for end in (low, high) if end is not None and end not in told])
    return {key: tuple(sorted(set(told))) for key, told in found.items()}


def used(views):
    """Return the dict from the names of all tables to the columns that a view shows, ranges or follows."""
    told = {}
    for view in views:
        for node, column in used_at_nodes(view):
            told[view.nodes[node][2], column] = True
    schema = views[0].schema
    return {table: tuple([name for name, target in schema.columns(table) if (table, name) in told])
            for table in schema.tables}


def used_at_nodes(view):
    """Return the pairs (node, column) of the columns that a view shows, ranges or follows."""
    found = list(view.shown)
    found.extend([(node, column) for node, column, low, high in view.ranges])
    found.extend([(parent, reference) for parent, reference, table in view.nodes[1:]])
    return found


def all_contents(views, base):
    """Return the list of the contents of views in a base."""
    return [contents(view, base) for view in views]


def difference(views, first, second):
    """Return (index, id) of the first view and least id at which two bases differ, or None."""
    for index, view in enumerate(views):
        told, other = contents(view, first), contents(view, second)
        if told != other:
            return index, min([key for key in list(told) + list(other) if told.get(key) != other.get(key)])
    return None
