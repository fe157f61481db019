"""The search for two bases that kept views do not tell apart."""

from onlyviews.batches import Batch
from onlyviews.evidence import Evidence
from onlyviews.worlds import Worlds


def find_pair(views, changes, wanted, questions):
    """Return two bases and the changes, or None if there are no such bases.

    The bases are alike for kept views, a batch is allowed in both, some questions have equal answers in both, and the
    wanted view has different contents behind the batch. Plain values of changes may be strings, which stand for values
    that may be chosen; they are integers in the changes that are returned.
    """
    batch = Batch(wanted.schema, changes)
    told, needs_root = roots(views, batch, wanted)
    if not told and not needs_root:
        return None
    worlds = Worlds(views, batch, wanted)
    root = worlds.add_root() if needs_root else None
    worlds.demand_alike()
    for question in questions:
        worlds.demand_equal_answer(question)
    spots = [worlds.named[key] for key in told] + ([root] if needs_root else [])
    differs = [worlds.differs(spot) for spot in spots]
    worlds.formula.demand(differs)
    if not worlds.formula.solve():
        return None
    is_root_used = needs_root and worlds.formula.is_true(differs[-1])
    evidence = Evidence(worlds, root if is_root_used else None)
    first, second = evidence.bases()
    return first, second, [concrete(evidence, change) for change in changes]


def roots(views, batch, wanted):
    """Return the keys of the told root rows of which the wanted view may tell other things behind a batch, and whether
    it may of other root rows."""
    is_kept = wanted in views
    told = [key for key in batch.told() if key[0] == wanted.nodes[0][2] and batch.new[key] is not None]
    below = [table for parent, reference, table in wanted.nodes[1:]]
    if is_kept:
        told = [key for key in told if batch.is_touched(key)]
    steady = [key for key in batch.told() if key[0] in below and batch.is_steady(key) and batch.is_touched(key)]
    return told, not is_kept or len(steady) > 0


def concrete(evidence, change):
    """Return a change with the values that were chosen."""
    return tuple(change[:2]) + tuple([evidence.told_row(change[1], row) for row in change[2:]])
