"""Literals for what is composed of others, and what is demanded of them."""

from onlyviews.solving import Solver

TRUE = 0
FALSE = 1


class Formula:
    """Demands on literals; those of the first variable, TRUE and FALSE, are the constants."""

    def __init__(self):
        self._solver = Solver()
        self._known = {}
        self._solver.demand([self._solver.variable(True)])

    def variable(self, likely=False):
        """Return a new literal, with the truth that is likely."""
        return self._solver.variable(likely)

    def demand(self, literals):
        """Demand that one of some literals is true."""
        told = simplified(literals)
        if told is not None:
            self._solver.demand(told)

    def either(self, literals):
        """Return the literal that is true if one of some literals is."""
        told = simplified(literals)
        if told is None:
            return TRUE
        if len(told) < 2:
            return told[0] if told else FALSE
        key = tuple(told)
        if key not in self._known:
            self._known[key] = self._new_either(told)
        return self._known[key]

    def both(self, literals):
        """Return the literal that is true if all of some literals are."""
        return self.either([literal ^ 1 for literal in literals]) ^ 1

    def _new_either(self, literals):
        whole = self._solver.variable(False)
        self._solver.demand([whole ^ 1] + literals)
        for literal in literals:
            self._solver.demand([whole, literal ^ 1])
        return whole

    def solve(self):
        """Return True if all demands can be met, and find values that do."""
        return self._solver.solve()

    def is_true(self, literal):
        """Return True if a literal is true in the values that were found."""
        return self._solver.is_true(literal)


def simplified(literals):
    """Return the literals but FALSE in order, each once, or None if one of them is surely true."""
    told = sorted(set(literals))
    for at, literal in enumerate(told):
        if literal == TRUE or at > 0 and literal ^ 1 == told[at - 1]:
            return None
    return [literal for literal in told if literal != FALSE]
