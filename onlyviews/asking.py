"""Questions to the base, and following with their answers."""

from onlyviews.bases import column_place, led_to, net, target_of
from onlyviews.batches import in_order
from onlyviews.deciding import is_doubt
from onlyviews.errors import NotFollowed
from onlyviews.fitting import new_contents
from onlyviews.searching import find_pair


def answer(base, question):
    """Return the answer to a question: the list of the pairs (table, row) of rows and of all below them."""
    if question[0] == "below":
        keys = [(question[1], question[2])]
    else:
        keys = keys_above(base, question[1], question[2], question[3])
    found = {}
    for key in keys:
        add_below(base, key, found)
    return [(table, base.row_at(table, key)) for table, key in in_order(base.schema, found)]


def keys_above(base, table, path, goal):
    """Return the keys of the rows of a table that lead to the row with an id by a path."""
    return [(table, key) for key in base.rows(table) if end_of_path(base, table, key, path) == goal]


def end_of_path(base, table, key, path):
    """Return the id of the row to which the row with an id leads by a path."""
    for reference in path:
        key = base.row_at(table, key)[column_place(base.schema, table, reference)]
        table = target_of(base.schema, table, reference)
    return key


def add_below(base, key, found):
    """Add the keys of a row and of all rows below it to a dict, if it is there."""
    row = base.row_at(key[0], key[1])
    if row is None or key in found:
        return
    found[key] = True
    for target in led_to(base.schema, key[0], row):
        add_below(base, target, found)


def candidates(views, changes, index):
    """Return the list of the candidates of a batch for a kept view, in order."""
    view = views[index]
    effect = net(changes)
    was_there = was_there_before(changes)
    led = rows_led_to(view.schema, effect)
    found = [("below", table, key) for table, key in led if was_there.get((table, key), True)]
    for node in range(1, len(view.nodes)):
        for table, key in in_order(view.schema, effect):
            if table == view.nodes[node][2] and was_there[table, key]:
                found.append(("above", view.nodes[0][2], path_to(view, node), key))
    return found


def was_there_before(changes):
    """Return the dict from (table, id) to whether a row that a batch names was there before it."""
    found = {}
    for change in changes:
        found.setdefault((change[1], change[2][0]), change[0] != "insert")
    return found


def rows_led_to(schema, effect):
    """Return the ordered list of the keys of rows to which old and new rows of a net effect refer."""
    found = {}
    for (table, key), rows in effect.items():
        for row in rows:
            for target in [] if row is None else led_to(schema, table, row):
                found[target] = True
    return in_order(schema, found)


def path_to(view, node):
    """Return the tuple of the references from the root of a view to a node."""
    parent, reference, table = view.nodes[node]
    return () if parent is None else path_to(view, parent) + (reference,)


def can_follow_with(views, changes, index, questions):
    """Return True if a batch can be followed for a kept view with a list of questions, otherwise False."""
    return find_pair(views, changes, views[index], questions) is None


def doubt_with(views, changes, index, questions):
    """Return None if a batch can be followed with questions, otherwise two bases that show that it cannot."""
    found = find_pair(views, changes, views[index], questions)
    return None if found is None else found[:2]


def is_doubt_with(views, changes, index, questions, value):
    """Return True if a value, which may be any, shows that a batch cannot be followed with questions."""
    if not is_doubt(views, changes, index, value):
        return False
    return all([answer(value[0], question) == answer(value[1], question) for question in questions])


def fewest(views, changes, index):
    """Return a list of as few candidates as possible with which a batch can be followed."""
    possible = candidates(views, changes, index)
    # For each evidence that was found, the numbers of the candidates that tell its bases apart: one of them is needed.
    groups = []
    while True:
        questions = [possible[number] for number in least_choice(groups)]
        pair = doubt_with(views, changes, index, questions)
        if pair is None:
            return questions
        groups.append([number for number, question in enumerate(possible)
                       if answer(pair[0], question) != answer(pair[1], question)])


def least_choice(groups):
    """Return the ascending list of as few numbers as possible, of which each group has one."""
    for many in range(len(groups)):
        found = choice_of(groups, [], many)
        if found is not None:
            return sorted(found)
    return sorted(choice_of(groups, [], len(groups)))


def choice_of(groups, chosen, many):
    """Return the chosen numbers and at most so many more, of which each group has one, or None."""
    missed = [group for group in groups if not any([number in chosen for number in group])]
    if not missed:
        return chosen
    if many == 0:
        return None
    for candidate in missed[0]:
        found = choice_of(groups, chosen + [candidate], many - 1)
        if found is not None:
            return found
    return None


def followed_with(views, contents, changes, answers):
    """Return the list of the new contents of all kept views by answers, or raise NotFollowed(index)."""
    questions = [question for question, told in answers]
    for index in range(len(views)):
        if not can_follow_with(views, changes, index, questions):
            raise NotFollowed(index)
    known = [pair for question, told in answers for pair in told]
    return new_contents(views, contents, changes, known)
