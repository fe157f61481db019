"""The words by which rules name rows and shown values: t, TABLE:ID, REF/I.N and REF/I=K."""

from onlyviews.bases import led_to, old_and_new
from onlyviews.integers import read_integer
from onlyviews.schemas import LARGEST, is_name

ROOT = "t"
VIEW_NUMBERS = "012"
NODE_NUMBERS = "123"
VALUE_NUMBERS = "01234567"


def is_row_name(word):
    """Return True if a word has the form of a name of a row."""
    first, *steps = word.split("/")
    if first != ROOT and not is_told_name(first):
        return False
    return all([is_step(step, ".", NODE_NUMBERS) for step in steps])


def is_node_name(word):
    """Return True if a word has the form of a name of a row that a view shows for another one."""
    return "/" in word and is_row_name(word)


def is_value_name(word):
    """Return True if a word has the form of a name of a shown value."""
    row, slash, step = word.rpartition("/")
    return is_step(step, "=", VALUE_NUMBERS) and is_row_name(row)


def is_told_name(word):
    """Return True if a word has the form TABLE:ID."""
    table, colon, key = word.partition(":")
    return is_name(table) and read_integer(key, 0, LARGEST) is not None


def is_step(word, sign, numbers):
    """Return True if a word is the number of a view, a sign, and one of some numbers."""
    return len(word) == 3 and word[0] in VIEW_NUMBERS and word[1] == sign and word[2] in numbers


def node_name(row, number, node):
    """Return the name of the row at a node that a view shows for a row."""
    return f"{row}/{number}.{node}"


def value_name(row, number, place):
    """Return the name of the value with a number that a view shows for a row."""
    return f"{row}/{number}={place}"


def told_name(key):
    """Return the name of the row with a key (table, id)."""
    return f"{key[0]}:{key[1]}"


def read_told_name(word):
    """Return the key (table, id) of a name TABLE:ID."""
    table, colon, key = word.partition(":")
    return table, int(key)


def read_step(step):
    """Return the numbers of a step I.N or I=K."""
    return int(step[0]), int(step[2])


def named_by(changes):
    """Return a dict with the keys (table, id) that changes name."""
    return {(change[1], change[2][0]): True for change in changes}


def told_by(schema, changes):
    """Return a dict with the keys (table, id) that changes name, or to which references of their rows lead."""
    found = named_by(changes)
    for change in changes:
        for row in old_and_new(change):
            for key in [] if row is None else led_to(schema, change[1], row):
                found[key] = True
    return found
