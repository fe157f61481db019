"""Cases for rules, drawn rules, and rules with one thing spoilt, the same for the same seed."""

from makers import SCHEMAS, any_base, any_batch, any_view
from onlyviews.rules import is_rule
from oracle import is_sound, made, shown_by, tables_of

QUESTIONS = {"is": 4, "in": 5, "same": 5, "below": 5}


def any_rule_case(chance, ids=3, schemas=SCHEMAS, most_ranges=6, values=(-1, 0, 1, 2, 3)):
    """Return a base, kept views, a view and a batch of at most two changes that the base allows."""
    while True:
        schema = chance.choice(schemas)
        views = [any_view(chance, schema) for _ in range(chance.choice([0, 1, 2, 3, 3, 3]))]
        view = chance.choice(views) if views and chance.random() < 0.25 else any_view(chance, schema)
        if sum(len(each.ranges) for each in [*views, view]) <= most_ranges:
            break
    base = any_base(chance, schema, ids, values)
    return base, views, view, any_batch(chance, base, chance.choice([0, 0, 1, 1, 2, 2]), ids, values)


def told_names(schema, changes):
    """Return the dict from the names TABLE:ID of told rows to (table, whether a change names it)."""
    found = {}
    for change in changes:
        for row in change[2:]:
            for (_, target), part in zip(schema.columns(change[1]), row[1:]):
                if target is not None:
                    found.setdefault(f"{target}:{part}", (target, False))
    for change in changes:
        found[f"{change[1]}:{change[2][0]}"] = (change[1], True)
    return found


class Names:
    """What may be named at a place of a rule."""

    def __init__(self, views, changes, view):
        self.views, self.view = views, view
        self.told = told_names(view.schema, changes)
        self.rows = {"t": view.nodes[0][2], **{name: table for name, (table, _) in self.told.items()}}
        self.values = []

    def named(self, table):
        return [int(name.split(":")[1]) for name, (other, is_named) in self.told.items() if is_named and other == table]

    def inside(self, number, name):
        """Return the names in the yes part of a question in."""
        other = Names.__new__(Names)
        other.views, other.view, other.told = self.views, self.view, self.told
        shown = self.views[number]
        other.rows = {**self.rows, **{f"{name}/{number}.{node}": table for node, (_, _, table) in enumerate(shown.nodes)
                                      if node}}
        other.values = self.values + [f"{name}/{number}={at}" for at in range(len(shown.shown))]
        return other

    def questions(self):
        found = [("is", key) for key in self.named(self.view.nodes[0][2])]
        for name, table in self.rows.items():
            found += [("in", number, name) for number, view in enumerate(self.views) if view.nodes[0][2] == table]
            if "/" in name:
                found += [("same", name, key) for key in self.named(table)]
        return found

    def leaf(self, chance, low=-1, high=3):
        """Return any leaf."""
        word = chance.choice(["none", "never", "row", "row", "row"])
        if word != "row":
            return (word,)
        ids = ["t"]
        for _, _, table in self.view.nodes[1:]:
            fits = [name for name, other in self.rows.items() if other == table]
            if not fits:
                return ("none",)
            ids.append(chance.choice(fits))
        values = [chance.choice(self.values) if self.values and chance.random() < 0.8 else chance.randint(low, high)
                  for _ in self.view.shown]
        return ("row", tuple(ids), tuple(values))


def any_tree(chance, names, left, depth=0, most=12, low=-1, high=4):
    """Return a tree with at most as many questions as left[0], which they are taken from."""
    choices = names.questions()
    if names.values and (chance.random() < 0.4 or not choices):
        question = ("below", chance.choice(names.values), chance.randint(low, high))
    elif choices:
        question = chance.choice(choices)
    else:
        question = None
    if question is None or left[0] <= 0 or depth == most or chance.random() < 0.1:
        return names.leaf(chance, low, high)
    left[0] -= 1
    inside = names.inside(*question[1:]) if question[0] == "in" else names
    yes = any_tree(chance, inside, left, depth + 1, most, low, high)
    return question + (yes, any_tree(chance, names, left, depth + 1, most, low, high))


def trees_of(rule):
    """Return the list of all trees of a rule, in the order of its text."""
    found, left = [], [rule]
    while left:
        tree = left.pop()
        found.append(tree)
        left += [tree[-1], tree[-2]] if tree[0] in QUESTIONS else []
    return found


def with_tree(rule, number, tree):
    """Return a rule with another tree in the place of that with a number."""
    at = [-1]

    def changed(old):
        at[0] += 1
        if at[0] == number:
            return tree
        if old[0] not in QUESTIONS:
            return old
        yes = changed(old[-2])
        return old[:-2] + (yes, changed(old[-1]))

    return changed(rule)


def spoilt(chance, views, changes, view, rule):
    """Return a rule with one thing other, or None if it would be none."""
    trees = trees_of(rule)
    number = chance.randrange(len(trees))
    tree = trees[number]
    if tree[0] not in QUESTIONS:
        leaves = [other for other in trees if other[0] not in QUESTIONS] + [("none",), ("never",)]
        other = chance.choice(leaves)
        if tree[0] == "row" and chance.random() < 0.7:
            other = spoilt_row(chance, tree, trees)
    elif tree[0] == "below" and chance.random() < 0.6:
        other = tree[:2] + (tree[2] + chance.choice([-1, 1]),) + tree[3:]
    elif chance.random() < 0.5:
        other = tree[:-2] + (tree[-1], tree[-2])
    else:
        questions = [each[1:-2] for each in trees if each[0] == tree[0]]
        other = tree[:1] + chance.choice(questions) + tree[-2:]
        if chance.random() < 0.4:
            other = chance.choice([tree[-2], tree[-1]])
    found = with_tree(rule, number, other)
    return found if found != rule and is_rule(views, changes, view, found) else None


def spoilt_row(chance, leaf, trees):
    """Return a leaf with another name, integer or order."""
    rows = [each for each in trees if each[0] == "row"]
    ids, values = list(leaf[1]), list(leaf[2])
    names = [name for each in rows for name in each[1]] + [each[2] for each in trees if each[0] == "in"]
    parts = [part for each in rows for part in each[2]] + [each[1] for each in trees if each[0] == "below"]
    if values and chance.random() < 0.6:
        at = chance.randrange(len(values))
        old = values[at]
        values[at] = old + chance.choice([-1, 1]) if isinstance(old, int) and chance.random() < 0.5 else chance.choice(
            parts + [chance.randint(-1, 3)])
    else:
        ids[chance.randrange(len(ids))] = chance.choice(names)
    return ("row", tuple(ids), tuple(values))


def leaf_for(kept, rule, key):
    """Return the leaf of a rule for an id and its names as integers, by a walk of its own."""
    def row(name):
        first, *steps = name.split("/")
        found = key if first == "t" else int(first.split(":")[1])
        for step in steps:
            number, node = map(int, step.split("."))
            found = kept[number][found][0][node]
        return found

    def value(name):
        number, at = map(int, name.rsplit("/", 1)[1].split("="))
        return kept[number][row(name.rsplit("/", 1)[0])][1][at]

    while rule[0] in QUESTIONS:
        word, first, second = rule[:3]
        yes = {"is": lambda: key == first, "in": lambda: row(second) in kept[first], "same": lambda: row(first) == second,
               "below": lambda: value(first) < second}[word]()
        rule = rule[-2] if yes else rule[-1]
    if rule[0] != "row":
        return rule
    return "row", tuple(map(row, rule[1])), tuple(part if isinstance(part, int) else value(part) for part in rule[2])


def walked(kept, rule, key):
    """Return what a rule tells for an id, by a walk of its own."""
    leaf = leaf_for(kept, rule, key)
    return leaf[1:] if leaf[0] == "row" else None


def is_wrong_at(views, changes, view, rule, tables, key):
    """Return whether a rule does not tell the row of a view behind a batch that tables allow, or comes to never."""
    later = made(view.schema, tables, changes)
    leaf = leaf_for([shown_by(kept, tables) for kept in views], rule, key)
    told = leaf[1:] if leaf[0] == "row" else None
    return leaf[0] == "never" or told != shown_by(view, later).get(key)


def shows_wrong(views, changes, view, rule, spot):
    """Return whether a value is a tuple of a base and an id for which a rule is wrong."""
    if type(spot) is not tuple or len(spot) != 2 or type(spot[1]) is not int or not 0 <= spot[1] <= 10 ** 6:
        return False
    tables = tables_of(spot[0])
    if not is_sound(view.schema, tables) or isinstance(made(view.schema, tables, changes), int):
        return False
    return is_wrong_at(views, changes, view, rule, tables, spot[1])
