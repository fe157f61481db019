"""Which lists of views tell other views."""

from itertools import combinations

from onlyviews.answering import can_answer

MOST_CHOSEN = 3


def tells(first, second):
    """Return True if the first list of views answers each view of the second one, otherwise False."""
    return all([can_answer(first, view) for view in second])


def superfluous(views):
    """Return the ascending tuple of the indexes of the views that all others of a list answer."""
    return tuple([index for index in range(len(views)) if can_answer(all_but(views, index), views[index])])


def all_but(views, index):
    """Return the list of the views of a list at all other indexes."""
    return [view for at, view in enumerate(views) if at != index]


def core(views):
    """Return the ascending tuple of the indexes of as few views of a list as tell all of it."""
    choices = [choice for many in range(len(views)) for choice in combinations(range(len(views)), many)]
    for choice in choices:
        if tells_rest(views, choice):
            return choice
    return tuple(range(len(views)))


def tells_rest(views, choice):
    """Return True if the views of a list at some indexes tell all others of it, and so the whole list."""
    rest = [view for at, view in enumerate(views) if at not in choice]
    return tells(chosen(views, choice), rest)


def chosen(views, choice):
    """Return the list of the views of a list at some indexes."""
    return [views[at] for at in choice]


def cheapest(candidates, costs, wanted):
    """Return the ascending tuple of the indexes of at most three candidates that tell the wanted views, and cost no
    more than any others that do, or None if there are none."""
    choices = [choice for many in range(MOST_CHOSEN + 1) for choice in combinations(range(len(candidates)), many)]
    for cost, choice in sorted([(sum(chosen(costs, choice)), choice) for choice in choices]):
        if tells(chosen(candidates, choice), wanted):
            return choice
    return None
