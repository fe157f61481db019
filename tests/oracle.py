"""The points of the document once more, written plainly over dicts of rows, for tests to compare with."""

import itertools

LARGEST = 10 ** 6


def tables_of(base):
    """Return the dict from the tables of a base to the dicts from ids to rows."""
    return {table: base.rows(table) for table in base.schema.tables}


def pairs_of(tables):
    """Return the list of pairs (table, row) of tables."""
    return [(table, row) for table, rows in tables.items() for row in rows.values()]


def references(schema, table, row):
    """Return the pairs (table, id) to which a row refers."""
    return [(target, part) for (_, target), part in zip(schema.columns(table), row[1:]) if target is not None]


def is_sound(schema, tables):
    """Return whether tables hold right rows alone, with references to rows that are there."""
    for table, rows in tables.items():
        for key, row in rows.items():
            if type(row) is not tuple or len(row) != 1 + len(schema.columns(table)) or row[0] != key:
                return False
            lows = [0] + [-LARGEST if target is None else 0 for _, target in schema.columns(table)]
            if not all(type(part) is int and low <= part <= LARGEST for part, low in zip(row, lows)):
                return False
            if not all(key in tables[target] for target, key in references(schema, table, row)):
                return False
    return True


def made(schema, tables, changes):
    """Return the tables behind a batch, or the index of the first change that is not allowed."""
    tables = {table: dict(rows) for table, rows in tables.items()}
    for index, (word, table, *rows) in enumerate(changes):
        here = tables[table].get(rows[0][0])
        if word == "insert":
            fits = here is None
        else:
            fits = here == rows[0]
        if word == "delete":
            fits = fits and not any(
                (table, rows[0][0]) in references(schema, other, row) for other, row in pairs_of(tables))
        else:
            fits = fits and all(key in tables[target] for target, key in references(schema, table, rows[-1]))
        if not fits:
            return index
        if word == "delete":
            del tables[table][rows[0][0]]
        else:
            tables[table][rows[0][0]] = rows[-1]
    return tables


def shown_by(view, tables):
    """Return the contents of a view in tables."""
    schema = view.schema
    found = {}
    for key, root in tables[view.nodes[0][2]].items():
        parts = []
        for parent, reference, table in view.nodes:
            row = root if parent is None else tables[table][parts[parent][reference]]
            parts.append(dict(zip(["", *[name for name, _ in schema.columns(table)]], row)))
        held = [(low is None or low <= parts[node][column]) and (high is None or parts[node][column] <= high)
                for node, column, low, high in view.ranges]
        if all(held):
            found[key] = (tuple(part[""] for part in parts), tuple(parts[node][column] for node, column in view.shown))
    return found


def is_evidence(views, changes, index, value):
    """Return whether a value is a tuple of two sound bases that show that a batch cannot be followed."""
    schema = views[index].schema
    if type(value) is not tuple or len(value) != 2:
        return False
    first, second = [tables_of(base) for base in value]
    if not is_sound(schema, first) or not is_sound(schema, second):
        return False
    if any(shown_by(view, first) != shown_by(view, second) for view in views):
        return False
    later = [made(schema, tables, changes) for tables in (first, second)]
    if any(isinstance(tables, int) for tables in later):
        return False
    return shown_by(views[index], later[0]) != shown_by(views[index], later[1])


def below(schema, tables, key):
    """Return the set of the keys of a row and all rows below it, empty if it is not there."""
    if key[1] not in tables[key[0]]:
        return set()
    return {key}.union(*[below(schema, tables, target)
                         for target in references(schema, key[0], tables[key[0]][key[1]])])


def answered(schema, tables, question):
    """Return the answer to a question."""
    if question[0] == "below":
        keys = {question[1:]}
    else:
        keys = set()
        for key in tables[question[1]]:
            table, at = question[1], key
            for reference in question[2]:
                names = [name for name, _ in schema.columns(table)]
                target = dict(schema.columns(table))[reference]
                table, at = target, tables[table][at][1 + names.index(reference)]
            if at == question[3]:
                keys.add((question[1], key))
    found = set().union(*[below(schema, tables, key) for key in keys])
    ordered = sorted(found, key=lambda key: (schema.tables.index(key[0]), key[1]))
    return [(table, tables[table][key]) for table, key in ordered]


def all_tables(schema, ids, values):
    """Yield all sound tables whose ids and plain values are among these."""
    states = [{table: {} for table in schema.tables}]
    for table in schema.tables:
        for key in ids:
            states = list(with_row(schema, states, table, key, values))
    yield from states


def with_row(schema, states, table, key, values):
    """Yield all tables with one more row, or without it."""
    for tables in states:
        yield tables
        choices = [values if target is None else list(tables[target]) for _, target in schema.columns(table)]
        for parts in itertools.product(*choices):
            yield {**tables, table: {**tables[table], key: (key, *parts)}}
