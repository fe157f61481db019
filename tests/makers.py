"""Schemas, views, bases and batches, the same for the same seed."""

from onlyviews.bases import Base
from onlyviews.schemas import Schema
from onlyviews.views import View

SHOPS = Schema.parse("table region\n  plain size\ntable shop\n  plain open\n  ref place region")
# The shops in regions of at least 10, all regions with their sizes, and all shops with their regions.
BIG = View.parse(SHOPS, "view shop\n  follow place\n    shown size\n    range size 10 -")
REGIONS = View.parse(SHOPS, "view region\n  shown size")
PLACES = View.parse(SHOPS, "view shop\n  follow place")

SCHEMAS = [Schema.parse(text) for text in (
    "table a\n  plain p\ntable b\n  plain p\n  ref r a",
    "table a\n  plain p\n  plain q\ntable b\n  plain p\n  ref r a\n  ref s a",
    "table a\n  plain p\ntable b\n  plain p\n  ref r a\n  ref s a\ntable c\n  plain p\n  ref r b",
    "table a\n  plain p\ntable b\n  plain p\n  ref r a\ntable c\n  plain p\n  ref r b\n  ref s b",
    "table a\n  plain p\ntable b\n  plain p\n  ref r a\ntable c\n  plain p\n  ref r b\n  ref s a",
    "table a\n  plain p\ntable b\n  plain p\ntable c\n  ref r b\n  ref s a",
    "table a\n  plain p\n  plain q\ntable b",
    "table a\ntable b\n  ref r a\ntable c\n  ref r b",
)]


def any_view(chance, schema, low=0, high=2):
    """Return a view of a schema with ends from low to high."""
    table = schema.tables[-1] if chance.random() < 0.6 else chance.choice(schema.tables)
    left = {"node": chance.choice([0, 1, 3, 3]), "range": chance.choice([0, 1, 1, 2, 4])}
    shares = {"node": 0.9, "range": 0.6, "shown": chance.choice([0.1, 0.5])}

    def taken(part):
        if chance.random() > shares[part] or not left.get(part, 1):
            return False
        left[part] = left.get(part, 2) - 1 or (1 if part == "shown" else 0)
        return True

    def end():
        return "-" if chance.random() < 0.35 else str(chance.randint(low, high))

    def parts(table, indent):
        plain = [name for name, target in schema.columns(table) if target is None]
        rows = [f"{indent}shown {name}" for name in plain if taken("shown")]
        rows += [f"{indent}range {name} {end()} {end()}" for name in plain if taken("range")]
        for name, target in schema.columns(table):
            if target is not None and taken("node"):
                rows += [f"{indent}follow {name}", *parts(target, indent + "  ")]
        return rows

    return View.parse(schema, "\n".join([f"view {table}", *parts(table, "  ")]))


def any_base(chance, schema, ids=3, values=(-1, 0, 1, 2, 3), share=0.8):
    """Return a base of a schema, with ids below a number."""
    rows = {table: {} for table in schema.tables}
    for table in schema.tables:
        for key in range(ids):
            row = any_row(chance, schema, rows, table, key, values)
            if row is not None and chance.random() < share:
                rows[table][key] = row
    return Base(schema, [(table, row) for table in rows for row in rows[table].values()])


def any_row(chance, schema, rows, table, key, values, old=None):
    """Return a row of a table with references to rows that are there, or None."""
    parts = [key]
    for at, (name, target) in enumerate(schema.columns(table), 1):
        choices = values if target is None else list(rows[target])
        if not choices:
            return None
        parts.append(old[at] if old and chance.random() < 0.5 else chance.choice(choices))
    return tuple(parts)


def any_change(chance, base, ids=3, values=(-1, 0, 1, 2, 3)):
    """Return a change that a base allows, or None."""
    schema = base.schema
    rows = {table: base.rows(table) for table in schema.tables}
    for _ in range(20):
        table, key = chance.choice(schema.tables), chance.randrange(ids + 1)
        old = rows[table].get(key)
        new = any_row(chance, schema, rows, table, key, values, old)
        if old is None:
            change = ("insert", table, new)
        elif new is None or chance.random() < 0.25:
            change = ("delete", table, old)
        else:
            change = ("set", table, old, new)
        if change[-1] is not None and base.is_allowed([change]):
            return change
    return None


def any_batch(chance, base, many, ids=3, values=(-1, 0, 1, 2, 3)):
    """Return a batch of at most so many changes that a base allows."""
    later = base.fork()
    changes = []
    for _ in range(many):
        change = any_change(chance, later, ids, values)
        if change is not None:
            later.make([change])
            changes.append(change)
    return changes


def any_case(chance, most_changes=4, ids=3):
    """Return a base, up to three views of its schema and a batch that it allows."""
    schema = chance.choice(SCHEMAS)
    views = [any_view(chance, schema) for _ in range(chance.choice([1, 2, 3]))]
    base = any_base(chance, schema, ids)
    return base, views, any_batch(chance, base, chance.randint(1, most_changes), ids)
