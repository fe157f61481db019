"""Points 21 and 22 once more, written plainly from their words, for tests to compare with.

A row is (table, id) if it is told, "t" if t is another row, or (row, reference) for a row of its own to which a
reference of a row leads.
"""

FAR = 10 ** 8


def facts_of(rule, facts=()):
    """Yield pairs (facts, leaf), with facts as pairs (question, answer)."""
    if rule[0] in ("none", "never", "row"):
        yield list(facts), rule
    else:
        yield from facts_of(rule[-2], [*facts, (rule[:-2], True)])
        yield from facts_of(rule[-1], [*facts, (rule[:-2], False)])


def faults_of(leaf):
    """Return the list of the faults of a leaf, in order."""
    if leaf[0] != "row":
        return [(leaf[0],)]
    return [("no row",), *[("id", node) for node in range(len(leaf[1]))], *[("value", at) for at in range(len(leaf[2]))]]


def are_reasons_by_words(views, changes, view, rule, value, counts=True):
    """Return whether a value is reasons of a rule; counts says whether ranges of the view that hold because of the fault
    count where this cannot be by rows."""
    leaves = list(facts_of(rule))
    if type(value) is not list or len(value) != len(leaves):
        return False
    for (facts, leaf), trees in zip(leaves, value):
        if type(trees) is not list or len(trees) != len(faults_of(leaf)):
            return False
        for fault, tree in zip(faults_of(leaf), trees):
            if not Proof(views, changes, view, facts, leaf, fault, counts).is_refutation(tree):
                return False
    return True


class Proof:

    def __init__(self, views, changes, view, facts, leaf, fault, counts):
        self.views, self.changes, self.view, self.counts = views, changes, view, counts
        self.schema = view.schema
        self.facts, self.leaf, self.fault = facts, leaf, fault
        self.old, self.new, self.deleted, self.ids = {}, {}, set(), set()
        for word, table, *rows in changes:
            key = (table, rows[0][0])
            self.old.setdefault(key, None if word == "insert" else rows[0])
            self.new[key] = None if word == "delete" else rows[-1]
            if word == "delete":
                self.deleted.add(key)
            self.ids.add(key)
            for row in rows:
                self.ids |= {(target, part) for (_, target), part in zip(self.schema.columns(table), row[1:]) if target}

    # Rows.

    def table(self, row):
        if row == "t":
            return self.view.nodes[0][2]
        if row in self.ids:
            return row[0]
        return dict(self.schema.columns(self.table(row[0])))[row[1]]

    def part(self, table, row, column):
        """Return the value of a column of a row of a change, or the row to which a reference leads."""
        names = [name for name, _ in self.schema.columns(table)]
        target = dict(self.schema.columns(table))[column]
        part = row[1 + names.index(column)]
        return part if target is None else (target, part)

    def led(self, cases, row, reference, told):
        """Return the row to which a reference leads, with the rows of changes as told, or None."""
        if row in told:
            return None if told[row] is None else self.part(row[0], told[row], reference)
        return cases["leads"].get((row, reference))

    def path(self, view, node):
        parent, reference, _ = view.nodes[node]
        return [] if parent is None else [*self.path(view, parent), reference]

    def walk(self, cases, row, path, told):
        for reference in path:
            row = None if row is None else self.led(cases, row, reference, told)
        return row

    def first(self, cases, word):
        if word == "t":
            return cases["t"]
        table, _, key = word.partition(":")
        return (table, int(key)) if key.isascii() and key.isdigit() and f"{table}:{int(key)}" == word else None

    def row_of(self, cases, name):
        """Return the row that a rule names, or None."""
        word, *steps = name.split("/")
        row = self.first(cases, word)
        for step in steps:
            number, node = map(int, step.split("."))
            row = self.walk(cases, row, self.path(self.views[number], node), self.old)
        return row

    def value_of(self, cases, name):
        """Return the row and the column of a shown value that a rule names."""
        name, _, step = name.rpartition("/")
        number, at = map(int, step.split("="))
        node, column = self.views[number].shown[at]
        return self.walk(cases, self.row_of(cases, name), self.path(self.views[number], node), self.old), column

    def is_there(self, cases, row, told):
        if row in told:
            return told[row] is not None
        return not (row == "t" and cases["gone"])

    def t_is_behind(self, cases):
        return self.is_there(cases, cases["t"], self.new)

    def named_row(self, cases, name):
        """Return the row that a refutation names, if no change names it and it is there, otherwise None."""
        if type(name) is not str:
            return None
        word, *path = name.split(".")
        row = self.first(cases, word)
        if word != "t" and row not in self.ids:
            return None
        for reference in path:
            if row is None or dict(self.schema.columns(self.table(row))).get(reference) is None:
                return None
            row = self.led(cases, row, reference, self.old)
        return row if row is not None and row not in self.old and self.is_there(cases, row, self.old) else None

    # Conditions: tuples (row, column, rows of changes, low, high, whether inside), with None for rows not told.

    def held(self, cases, view, row, told):
        return [(self.walk(cases, row, self.path(view, node), told), column, told, low, high, True)
                for node, column, low, high in view.ranges]

    def fact_conditions(self, cases, number):
        question, answer = self.facts[number]
        if question[0] == "below":
            row, column = self.value_of(cases, question[1])
            low, high = (None, question[2] - 1) if answer else (question[2], None)
            return [(row, column, self.old, low, high, True)]
        if question[0] != "in":
            return []
        ranges = self.held(cases, self.views[question[1]], self.row_of(cases, question[2]), self.old)
        if answer:
            return ranges
        told = cases["told"].get(number)
        return [] if told is None else [ranges[told][:5] + (False,)]

    def fault_conditions(self, cases):
        found = []
        ranges = self.held(cases, self.view, cases["t"], self.new)
        if self.fault[0] in ("none", "id", "value") and self.t_is_behind(cases):
            found += ranges if self.counts or not self.is_fault_false(cases) else []
        if cases["side"] is not None:
            if self.fault[0] == "no row":
                found.append(ranges[cases["side"]][:5] + (False,))
            else:
                row, column = self.shown(cases)
                part = self.leaf[2][self.fault[1]]
                low, high = [(None, part - 1), (part + 1, None)][cases["side"]]
                found.append((row, column, self.new, low, high, True))
        return found

    def shown(self, cases):
        """Return the row and the column of the value of the fault."""
        node, column = self.view.shown[self.fault[1]]
        return self.walk(cases, cases["t"], self.path(self.view, node), self.new), column

    @staticmethod
    def meets(value, low, high, inside):
        return ((low is None or value >= low) and (high is None or value <= high)) is inside

    def breaks(self, conditions):
        """Return whether a value that a change tells breaks one of some conditions."""
        return any(told[row] is not None and not self.meets(self.part(row[0], told[row], column), low, high, inside)
                   for row, column, told, low, high, inside in conditions if row in told)

    def left(self, cases, row, column):
        """Return up to two integers that meet all conditions of a column of a row, as far as the ends tell them."""
        conditions = self.fault_conditions(cases)
        for number in range(len(self.facts)):
            conditions = conditions + self.fact_conditions(cases, number)
        mine = [condition[3:] for condition in conditions if condition[:2] == (row, column)]
        ends = {end + off for low, high, _ in mine for end in (low, high) if end is not None for off in (-2, -1, 0, 1, 2)}
        return [value for value in sorted(ends | {-FAR, 1 - FAR, FAR, FAR - 1}) if all(self.meets(value, *each) for each in mine)][:2]

    # Trees.

    def is_refutation(self, tree):
        return self.is_tree(tree, {"root": True})

    def is_tree(self, tree, cases):
        if type(tree) is not tuple or not tree or type(tree[0]) is not str:
            return False
        sizes = {"root": 2, "at": 4, "fact": 3, "fault": 2, "false": 2, "empty": 3, "equal": 2}
        if len(tree) != sizes.get(tree[0]) or ("root" in cases) != (tree[0] == "root"):
            return False
        if tree[0] in ("false", "empty", "equal"):
            return getattr(self, "is_" + tree[0])(cases, *tree[1:])
        inner = getattr(self, "cases_of_" + tree[0])(cases, *tree[1:-1])
        if inner is None or type(tree[-1]) is not list or len(tree[-1]) != len(inner):
            return False
        return all(self.is_tree(part, case) for part, case in zip(tree[-1], inner))

    def cases_of_root(self, cases):
        table = self.view.nodes[0][2]
        keys = sorted(key for key in self.old if key[0] == table)
        empty = {"leads": {}, "told": {}, "side": None, "gone": False}
        return [*[{**empty, "t": key} for key in keys], {**empty, "t": "t"}, {**empty, "t": "t", "gone": True}]

    def cases_of_at(self, cases, name, reference):
        row = self.named_row(cases, name)
        if row is None or type(reference) is not str or (row, reference) in cases["leads"]:
            return None
        target = dict(self.schema.columns(self.table(row))).get(reference)
        if target is None:
            return None
        keys = sorted(key for key in self.old if key[0] == target and self.old[key] is not None and key not in self.deleted)
        return [{**cases, "leads": {**cases["leads"], (row, reference): key}} for key in [*keys, (row, reference)]]

    def cases_of_fact(self, cases, number):
        if type(number) is not int or not 0 <= number < len(self.facts) or number in cases["told"]:
            return None
        question, answer = self.facts[number]
        if question[0] != "in" or answer or not self.views[question[1]].ranges:
            return None
        row = self.row_of(cases, question[2])
        if row is None or not self.is_there(cases, row, self.old):
            return None
        return [{**cases, "told": {**cases["told"], number: at}} for at in range(len(self.views[question[1]].ranges))]

    def cases_of_fault(self, cases):
        if cases["side"] is not None:
            return None
        many = 0
        if self.fault[0] == "no row" and self.t_is_behind(cases):
            many = len(self.view.ranges)
        if self.fault[0] == "value" and type(self.leaf[2][self.fault[1]]) is int:
            many = 2
        return [{**cases, "side": at} for at in range(many)] or None

    def is_false(self, cases, number):
        if number is None:
            return self.is_fault_false(cases) or self.breaks(self.fault_conditions(cases))
        if type(number) is not int or not 0 <= number < len(self.facts):
            return False
        return self.is_fact_false(cases, number) or self.breaks(self.fact_conditions(cases, number))

    def is_fact_false(self, cases, number):
        question, answer = self.facts[number]
        if question[0] == "is":
            return (cases["t"] == (self.view.nodes[0][2], question[1])) is not answer
        if question[0] == "same":
            row = self.row_of(cases, question[1])
            return row is not None and (row in self.old and row[1] == question[2]) is not answer
        if question[0] == "in":
            row = self.row_of(cases, question[2])
            if row is not None and not self.is_there(cases, row, self.old):
                return answer
            return row is not None and not self.views[question[1]].ranges and not answer
        return False

    def is_fault_false(self, cases):
        word, behind = self.fault[0], self.t_is_behind(cases)
        if word in ("none", "id", "value") and not behind:
            return True
        if word == "no row" and behind and not self.view.ranges:
            return True
        if word != "id":
            return False
        row = self.walk(cases, cases["t"], self.path(self.view, self.fault[1]), self.new)
        return row is not None and row == self.row_of(cases, self.leaf[1][self.fault[1]])

    def is_empty(self, cases, name, column):
        row = self.named_row(cases, name)
        if row is None or type(column) is not str or dict(self.schema.columns(self.table(row))).get(column, 0) is not None:
            return False
        return self.left(cases, row, column) == []

    def is_equal(self, cases, number):
        if self.fault[0] != "value" or type(self.leaf[2][self.fault[1]]) is int:
            return False
        sides = [(*self.shown(cases), self.new), (*self.value_of(cases, self.leaf[2][self.fault[1]]), self.old)]
        told = []
        for row, column, rows in sides:
            if row is None or not self.is_there(cases, row, rows):
                return False
            told.append(self.part(row[0], rows[row], column) if row in rows else None)
        if number is None:
            return told[0] == told[1] and (told[0] is not None or sides[0][:2] == sides[1][:2])
        if type(number) is not int:
            return False
        return all(value == number if value is not None else self.left(cases, row, column) == [number]
                   for value, (row, column, _) in zip(told, sides))


def trees_in(tree):
    """Yield all trees of a refutation with the way to each, a tuple of numbers of cases."""
    left = [((), tree)]
    while left:
        way, told = left.pop()
        yield way, told
        if isinstance(told[-1], list):
            left += [((*way, at), part) for at, part in enumerate(told[-1])]


def with_part(tree, way, part):
    """Return a refutation with another tree at the end of a way."""
    if not way:
        return part
    inner = list(tree[-1])
    inner[way[0]] = with_part(inner[way[0]], way[1:], part)
    return (*tree[:-1], inner)


def spoilt_tree(chance, tree, names, columns, most):
    """Return a refutation with one thing other than in a tree; sometimes it is one still."""
    way, part = chance.choice(list(trees_in(tree)))
    word = part[0]
    inner = list(part[-1]) if isinstance(part[-1], list) else []
    others = [("false", chance.choice([None, *range(-1, most + 1)])), ("equal", chance.choice([None, -1, 0, 1, 2, 3])),
              ("empty", chance.choice(names), chance.choice(columns)), ("fault", inner or [part] * 2),
              ("fact", chance.choice(range(most + 1)), inner or [part] * chance.choice([1, 2])),
              ("at", chance.choice(names), chance.choice(columns), inner or [part] * chance.choice([1, 2, 3])), ("root", inner or [part])]
    if chance.random() < 0.35:
        other = chance.choice(others[:3] if chance.random() < 0.5 else others)
    elif word == "empty":
        other = chance.choice([(word, chance.choice(names), part[2]), (word, part[1], chance.choice(columns))])
    elif not inner:
        other = chance.choice(others[:2])
    else:
        at = chance.randrange(len(inner))
        kind = chance.randrange(6)
        if kind == 0:
            chance.shuffle(inner)
        elif kind == 1:
            del inner[at]
        elif kind == 2:
            inner.insert(at, chance.choice(inner))
        elif kind == 3:
            return with_part(tree, way, inner[at])
        elif kind == 4:
            inner[at] = chance.choice(inner)
        other = (*part[:-1], inner)
        if kind == 5:
            other = (*part[:1], chance.choice(names), *part[2:]) if word == "at" else (*part[:-1], tuple(inner))
    return with_part(tree, way, other)
