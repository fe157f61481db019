"""Rules: their text form, which values are rules, and the rows that a rule tells."""

from onlyviews.errors import InvalidText
from onlyviews.integers import read_integer
from onlyviews.rulenames import (
    ROOT, is_node_name, is_row_name, is_value_name, named_by, node_name, read_step, read_told_name, told_by, told_name,
    value_name)
from onlyviews.schemas import LARGEST, is_within

LOWEST_BELOW = -1000
HIGHEST_BELOW = 1001
MOST_VIEWS = 3
MOST_IDS = 4
MOST_VALUES = 8
BARE_LEAVES = ("none", "never")
# The numbers of items of the tuples of questions.
SIZES = {"is": 4, "in": 5, "same": 5, "below": 5}
INDENT = "  "
ELSE = "else"
BAR = "|"


def rule_text(rule):
    """Return the text form of a rule."""
    rows = []
    # What is still to be written, the last one first: a tree or an else, and its depth.
    left = [(rule, 0)]
    while left:
        tree, depth = left.pop()
        rows.append(INDENT * depth + head_text(tree))
        if tree[0] in SIZES:
            left.extend([(tree[-1], depth + 1), ((ELSE,), depth), (tree[-2], depth + 1)])
    return "\n".join(rows)


def head_text(tree):
    """Return the row of a question, a leaf or an else."""
    if tree[0] == "row":
        words = ["row"] + list(tree[1]) + [BAR] + list(tree[2])
    else:
        words = tree[:-2] if tree[0] in SIZES else tree
    return " ".join([str(word) for word in words])


def parse_rule(text):
    """Return the rule of a text, or raise InvalidText(row)."""
    rows = text.split("\n")
    reader = Reader()
    for number, row in enumerate(rows):
        if not reader.takes(row):
            raise InvalidText(number)
    if reader.rule is None:
        raise InvalidText(len(rows))
    return reader.rule


class Reader:
    """The rule of a text, as far as its rows were read."""

    def __init__(self):
        self.rule = None
        # Lists of the words of the questions that are not closed, and behind these the yes part where it was read.
        self._questions = []
        self._wants_else = False

    def takes(self, row):
        """Take the next row if a text form may have it there; return whether it may."""
        if self.rule is not None:
            return False
        if self._wants_else:
            self._wants_else = False
            return row == INDENT * (len(self._questions) - 1) + ELSE
        indent = INDENT * len(self._questions)
        if not row.startswith(indent):
            return False
        words = row[len(indent):].split(" ")
        question = read_question(words)
        if question is not None:
            self._questions.append([question])
            return True
        leaf = read_leaf(words)
        if leaf is None:
            return False
        self._close(leaf)
        return True

    def _close(self, tree):
        """Put a tree where it belongs, with all questions of which it is the end."""
        while self._questions and len(self._questions[-1]) == 2:
            question, yes = self._questions.pop()
            tree = question + (yes, tree)
        if self._questions:
            self._questions[-1].append(tree)
            self._wants_else = True
        else:
            self.rule = tree


def read_question(words):
    """Return the tuple of the word and the parts of a question, or None if words are none."""
    if words[0] not in SIZES or len(words) != SIZES[words[0]] - 2:
        return None
    if words[0] == "is":
        parts = (read_integer(words[1], 0, LARGEST),)
    elif words[0] == "in":
        parts = (read_integer(words[1], 0, MOST_VIEWS - 1), words[2] if is_row_name(words[2]) else None)
    elif words[0] == "same":
        parts = (words[1] if is_node_name(words[1]) else None, read_integer(words[2], 0, LARGEST))
    else:
        end = read_integer(words[2], LOWEST_BELOW, HIGHEST_BELOW)
        parts = (words[1] if is_value_name(words[1]) else None, end)
    return None if None in parts else (words[0],) + parts


def read_leaf(words):
    """Return the leaf of some words, or None if they are none."""
    if len(words) == 1 and words[0] in BARE_LEAVES:
        return (words[0],)
    if words[0] != "row" or BAR not in words:
        return None
    bar = words.index(BAR)
    ids, values = words[1:bar], [read_value(word) for word in words[bar + 1:]]
    if not 1 <= len(ids) <= MOST_IDS or len(values) > MOST_VALUES or None in values:
        return None
    return ("row", tuple(ids), tuple(values)) if all([is_row_name(word) for word in ids]) else None


def read_value(word):
    """Return the integer or the name of a value that a word writes, or None."""
    return word if is_value_name(word) else read_integer(word, -LARGEST, LARGEST)


def is_rule(views, changes, view, value):
    """Return True if a value, which may be any, is a rule for kept views, a batch and a view, otherwise False."""
    scope = Scope(views, changes, view)
    # What is still to be looked at, the last one first: trees, and lists of names that end behind them.
    left = [("tree", value)]
    while left:
        word, told = left.pop()
        if word == "names":
            scope.forget(told)
        elif scope.is_question(told):
            names = scope.learn(told[1], told[2]) if told[0] == "in" else []
            left.extend([("tree", told[-1]), ("names", names), ("tree", told[-2])])
        elif not scope.is_leaf(told):
            return False
    return True


class Scope:
    """The names that may stand at a place of a rule, and what else a rule for views, a batch and a view may have."""

    def __init__(self, views, changes, view):
        self._views = views
        self._view = view
        self._table = view.nodes[0][2]
        self._named = named_by(changes)
        # The tables of the rows that may be named, and the values that may be.
        self._rows = {told_name(key): key[0] for key in told_by(view.schema, changes)}
        self._rows[ROOT] = self._table
        self._values = {}

    def learn(self, number, row):
        """Let the names stand that a view has for a row; return the list of those that could not stand before."""
        view = self._views[number]
        tables = {node_name(row, number, node): view.nodes[node][2] for node in range(1, len(view.nodes))}
        values = [value_name(row, number, place) for place in range(len(view.shown))]
        names = [name for name in list(tables) + values if name not in self._rows and name not in self._values]
        self._rows.update(tables)
        self._values.update({name: True for name in values})
        return names

    def forget(self, names):
        """Let names stand no more."""
        for name in names:
            self._rows.pop(name, None)
            self._values.pop(name, None)

    def is_question(self, tree):
        """Return True if a value, which may be any, is a question, whatever its yes part and its no part are."""
        if not isinstance(tree, tuple) or not tree or not isinstance(tree[0], str):
            return False
        if tree[0] not in SIZES or len(tree) != SIZES[tree[0]]:
            return False
        if tree[0] == "is":
            return self._is_named(self._table, tree[1])
        if tree[0] == "in":
            return self._is_in(tree[1], tree[2])
        if tree[0] == "same":
            return self._is_row(tree[1]) and "/" in tree[1] and self._is_named(self._rows[tree[1]], tree[2])
        return self._is_value(tree[1]) and is_within(tree[2], LOWEST_BELOW, HIGHEST_BELOW)

    def _is_named(self, table, key):
        return is_within(key, 0, LARGEST) and (table, key) in self._named

    def _is_in(self, number, row):
        if not is_within(number, 0, len(self._views) - 1) or not self._is_row(row):
            return False
        return self._rows[row] == self._views[number].nodes[0][2]

    def _is_row(self, name):
        return isinstance(name, str) and name in self._rows

    def _is_value(self, name):
        return isinstance(name, str) and name in self._values

    def is_leaf(self, tree):
        """Return True if a value, which may be any, is a leaf."""
        if not isinstance(tree, tuple) or not tree or not isinstance(tree[0], str):
            return False
        if tree[0] in BARE_LEAVES:
            return len(tree) == 1
        return tree[0] == "row" and len(tree) == 3 and self._are_ids(tree[1]) and self._are_values(tree[2])

    def _are_ids(self, ids):
        tables = [table for parent, reference, table in self._view.nodes]
        if not isinstance(ids, tuple) or len(ids) != len(tables) or not all([self._is_row(name) for name in ids]):
            return False
        return ids[0] == ROOT and [self._rows[name] for name in ids] == tables

    def _are_values(self, values):
        if not isinstance(values, tuple) or len(values) != len(self._view.shown):
            return False
        return all([self._is_value(part) or is_within(part, -LARGEST, LARGEST) for part in values])


def run_rule(views, contents, rule, key):
    """Return the row that a rule tells for an id by the contents of kept views, or None."""
    tree = rule
    while tree[0] in SIZES:
        tree = tree[-2] if is_yes(contents, tree, key) else tree[-1]
    if tree[0] != "row":
        return None
    values = [find_value(contents, part, key) if isinstance(part, str) else part for part in tree[2]]
    return tuple([find_id(contents, name, key) for name in tree[1]]), tuple(values)


def is_yes(contents, question, key):
    """Return True if the answer to a question of a rule is yes for an id."""
    if question[0] == "is":
        return key == question[1]
    if question[0] == "in":
        return find_id(contents, question[2], key) in contents[question[1]]
    if question[0] == "same":
        return find_id(contents, question[1], key) == question[2]
    return find_value(contents, question[1], key) < question[2]


def find_id(contents, name, key):
    """Return the id of the row with a name, for an id of the root's table."""
    first, *steps = name.split("/")
    found = key if first == ROOT else read_told_name(first)[1]
    for step in steps:
        number, node = read_step(step)
        found = contents[number][found][0][node]
    return found


def find_value(contents, name, key):
    """Return the shown value with a name, for an id of the root's table."""
    row, slash, step = name.rpartition("/")
    number, place = read_step(step)
    return contents[number][find_id(contents, row, key)][1][place]


def told_contents(views, contents, changes, view, rule):
    """Return the dict from ids to the rows that a rule tells, for all ids that a change or a kept view has."""
    table = view.nodes[0][2]
    keys = {key: True for name, key in named_by(changes) if name == table}
    for kept, rows in zip(views, contents):
        if kept.nodes[0][2] == table:
            keys.update({key: True for key in rows})
    told = {key: run_rule(views, contents, rule, key) for key in keys}
    return {key: row for key, row in told.items() if row is not None}
