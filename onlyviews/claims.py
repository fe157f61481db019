"""Facts of leaves and faults, and what they tell of rows and values.

A condition (place, column, low, high, inside) says that the value of a column of the row at a place is within a range
with these ends, or, if inside is False, that it is not.
"""

from onlyviews.ground import AHEAD, denied
from onlyviews.rulenames import ROOT, told_name

NEVER = "never"
NONE = "none"
NO_ROW = "no row"
OTHER_ID = "id"
OTHER_INTEGER = "integer"
OTHER_VALUE = "value"


class Fact:
    """A question of a rule with its answer.

    row_name is the name of the row with the id of a question is or same, number that of the view of a question in;
    otherwise they are None. conditions hold by the answer; of options one holds, if the row at the place is there.
    """

    def __init__(self, is_yes, place, row_name, number, conditions, options):
        self.is_yes = is_yes
        self.place = place
        self.row_name = row_name
        self.number = number
        self.conditions = conditions
        self.options = options


class Fault:
    """What may be wrong about a leaf.

    place is that of the view's row of which an id or a value may be wrong, column that of the value; given is the
    place that the leaf names there, given_column the column of the value that it names; otherwise they are None.
    conditions hold if the fault is; of options one holds, if t is there behind the batch.
    """

    def __init__(self, word):
        self.word = word
        self.place = None
        self.column = None
        self.given = None
        self.given_column = None
        self.conditions = []
        self.options = []

    def has_row(self):
        """Return True if the fault tells that the view has a row."""
        return self.word not in (NEVER, NO_ROW)


def make_fact(ground, question, answer):
    """Return the fact of a question of a rule with an answer."""
    word = question[0]
    if word == "is":
        return Fact(answer, (ROOT, (), AHEAD), told_name((ground.table, question[1])), None, [], [])
    if word == "same":
        place = ground.place_of(question[1])
        return Fact(answer, place, told_name((ground.place_table(place), question[2])), None, [], [])
    if word == "in":
        place = ground.place_of(question[2])
        ranges = ground.ranges_of(question[1], place)
        options = [] if answer else [denied(condition) for condition in ranges]
        return Fact(answer, place, None, question[1], ranges if answer else [], options)
    place, column = ground.value_place_of(question[1])
    condition = (place, column, None, question[2] - 1, True) if answer else (place, column, question[2], None, True)
    return Fact(answer, place, None, None, [condition], [])


def make_faults(ground, leaf):
    """Return the list of the faults of a leaf, in order."""
    if leaf[0] != "row":
        return [bare_fault(ground, NEVER if leaf[0] == "never" else NONE)]
    found = [bare_fault(ground, NO_ROW)]
    found.extend([id_fault(ground, node, name) for node, name in enumerate(leaf[1])])
    found.extend([value_fault(ground, at, part) for at, part in enumerate(leaf[2])])
    return found


def bare_fault(ground, word):
    """Return a fault that says nothing of an id or a value."""
    fault = Fault(word)
    ranges = ground.ranges_of(None, ground.node_place(0))
    if fault.has_row():
        fault.conditions = ranges
    elif word == NO_ROW:
        fault.options = [denied(condition) for condition in ranges]
    return fault


def id_fault(ground, node, name):
    """Return the fault that the view has a row with another row's id at a node than that of a name."""
    fault = bare_fault(ground, OTHER_ID)
    fault.place = ground.node_place(node)
    fault.given = ground.place_of(name)
    return fault


def value_fault(ground, at, part):
    """Return the fault that the view has a row with another shown value than an integer, or the one of a name."""
    fault = bare_fault(ground, OTHER_VALUE if isinstance(part, str) else OTHER_INTEGER)
    node, column = ground.view.shown[at]
    fault.place = ground.node_place(node)
    fault.column = column
    if fault.word == OTHER_VALUE:
        fault.given, fault.given_column = ground.value_place_of(part)
    else:
        fault.options = [(fault.place, column, None, part - 1, True), (fault.place, column, part + 1, None, True)]
    return fault
