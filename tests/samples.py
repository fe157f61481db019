"""Values that several tests pass."""


def nested(inner, depth):
    """Return values in which the inner one is nested so deep, in several ways."""
    tuples = lists = dicts = inner
    for _ in range(depth):
        tuples, lists, dicts = (tuples,), [lists], {"a": dicts}
    return [tuples, lists, dicts]


ANY_VALUES = [
    0, 1, -1, 5, 10 ** 6, 10 ** 6 + 1, -10 ** 6, -10 ** 6 - 1, 10 ** 900,
    True, False, None, "", "a", "table a", "(5, 1, 3)", "\n",
    (), (None,), (True,), ("5",), ((),), ([],), ({},), (5, None, 3), (5, "1", 3), (5, [1], 3),
    (5, (1,), 3), (5, {}, 3), (5, 1, 3, 3), (5, 1),
    [], [5], [5, 1, 3], [None], [(5, 1, 3)], {}, {5: 1}, {0: 5, 1: 1, 2: 3}, {(5, 1, 3): None},
    *nested(5, 50), *nested((5, 1, 3), 49), *nested(None, 50), *nested(True, 50),
]
