"""The integers that conditions leave for a value.

Conditions are tuples (low, high, inside, ..), as those of claims without a place and a column.
"""

# No condition has an end as far from 0.
FARTHEST = 1000000000


def is_met(value, low, high, inside):
    """Return True if a value meets a condition."""
    return ((low is None or low <= value) and (high is None or value <= high)) == inside


def meets_all(value, conditions):
    """Return True if a value meets all conditions."""
    return all([is_met(value, condition[0], condition[1], condition[2]) for condition in conditions])


def least_left(conditions, start):
    """Return the least integer from start on that meets all conditions, or None."""
    value = start
    raised = None
    while raised != value:
        raised = value
        for condition in conditions:
            value = raise_to(value, condition)
            if value is None:
                return None
    return value


def raise_to(value, condition):
    """Return the least integer from a value on that meets a condition, or None."""
    low, high, inside = condition[:3]
    if is_met(value, low, high, inside):
        return value
    if inside:
        return low if low is not None and value < low and (high is None or low <= high) else None
    return None if high is None else high + 1


def is_empty(conditions):
    """Return True if no integer meets all conditions."""
    return least_left(conditions, -FARTHEST) is None


def only_left(conditions):
    """Return the integer that alone meets all conditions, or None."""
    least = least_left(conditions, -FARTHEST)
    if least is None or least == -FARTHEST or least_left(conditions, least + 1) is not None:
        return None
    return least


def nearest_left(conditions, value, farthest):
    """Return the integer up to so far from 0 that meets all conditions and is nearest to a value, or None."""
    found = [value, -farthest, farthest]
    for condition in conditions:
        for end in condition[:2]:
            found.extend([] if end is None else [end - 1, end, end + 1])
    # What is left has its ends there.
    fits = [each for each in found if -farthest <= each <= farthest and meets_all(each, conditions)]
    return min(fits, key=lambda one: abs(one - value)) if fits else None
