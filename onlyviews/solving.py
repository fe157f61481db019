"""A search for truth values of variables that meet clauses.

A literal is an integer: 2 * v says that variable v is true, 2 * v + 1 that it is false.
"""

from heapq import heappush, heappop


class Solver:
    """Clauses, and the truth of literals as far as it is known: 1, -1, or 0 while it is open."""

    def __init__(self):
        self._truth = []
        self._levels = []
        self._reasons = []
        self._likely = []
        self._ranks = []
        self._best_rank = 0
        self._queue = []
        self._watches = []
        self._trail = []
        self._starts = []
        self._head = 0
        self._broken = False

    def variable(self, likely):
        """Return the positive literal of a new variable, with the truth that is tried first."""
        many = len(self._levels)
        self._truth.extend([0, 0])
        self._watches.extend([[], []])
        self._levels.append(0)
        self._reasons.append(None)
        self._likely.append(0 if likely else 1)
        self._ranks.append(many)
        heappush(self._queue, (many, many))
        return 2 * many

    def demand(self, literals):
        """Demand that one of some literals of different variables is true; all demands stand ahead of solve."""
        clause = list(literals)
        if not clause:
            self._broken = True
        elif len(clause) == 1:
            if self._truth[clause[0]] == 0:
                self._assign(clause[0], None)
            elif self._truth[clause[0]] < 0:
                self._broken = True
        else:
            self._watch(clause)

    def is_true(self, literal):
        """Return True if a literal is true in the values that were found."""
        return self._truth[literal] == 1

    def solve(self):
        """Return True if there are values that meet all clauses, and find some."""
        if self._broken:
            return False
        while True:
            conflict = self._propagate()
            if conflict is None:
                choice = self._choose()
                if choice is None:
                    return True
                self._starts.append(len(self._trail))
                self._assign(choice, None)
            elif not self._starts:
                return False
            else:
                self._learn(conflict)

    def _watch(self, clause):
        self._watches[clause[0]].append(clause)
        self._watches[clause[1]].append(clause)

    def _assign(self, literal, reason):
        variable = literal >> 1
        self._truth[literal] = 1
        self._truth[literal ^ 1] = -1
        self._levels[variable] = len(self._starts)
        self._reasons[variable] = reason
        self._trail.append(literal)

    def _propagate(self):
        """Assign what follows from the trail; return a clause that fails, or None."""
        truth = self._truth
        while self._head < len(self._trail):
            false = self._trail[self._head] ^ 1
            self._head += 1
            waiting = self._watches[false]
            kept = []
            self._watches[false] = kept
            for at, clause in enumerate(waiting):
                if clause[0] == false:
                    clause[0] = clause[1]
                    clause[1] = false
                first = clause[0]
                if truth[first] == 1:
                    kept.append(clause)
                elif not self._moves(clause):
                    kept.append(clause)
                    if truth[first] == -1:
                        kept.extend(waiting[at + 1:])
                        return clause
                    self._assign(first, clause)
        return None

    def _moves(self, clause):
        """Watch another literal of a clause than its second one, which is false, if one may be true."""
        truth = self._truth
        for at in range(2, len(clause)):
            other = clause[at]
            if truth[other] >= 0:
                clause[at] = clause[1]
                clause[1] = other
                self._watches[other].append(clause)
                return True
        return False

    def _choose(self):
        """Return a literal of an open variable, or None if there is none."""
        while self._queue:
            rank, variable = heappop(self._queue)
            if self._truth[2 * variable] == 0 and self._ranks[variable] == rank:
                return 2 * variable + self._likely[variable]
        return None

    def _learn(self, conflict):
        """Keep a clause that follows from a conflict, go back to where it tells something, and use it."""
        clause = self._reason_out(conflict)
        level = 0
        for at in range(1, len(clause)):
            if self._levels[clause[at] >> 1] > level:
                level = self._levels[clause[at] >> 1]
                clause[1], clause[at] = clause[at], clause[1]
        self._go_back(level)
        if len(clause) > 1:
            self._watch(clause)
        self._assign(clause[0], clause if len(clause) > 1 else None)

    def _reason_out(self, conflict):
        """Return a clause that follows, and has one literal alone of the last level, ahead of all others."""
        seen = set()
        others = []
        many = 0
        clause = conflict
        at = len(self._trail)
        while True:
            for literal in clause:
                variable = literal >> 1
                if variable not in seen and self._levels[variable] > 0:
                    seen.add(variable)
                    self._raise_rank(variable)
                    if self._levels[variable] == len(self._starts):
                        many += 1
                    else:
                        others.append(literal)
            at -= 1
            while self._trail[at] >> 1 not in seen:
                at -= 1
            many -= 1
            if many == 0:
                return [self._trail[at] ^ 1] + others
            clause = self._reasons[self._trail[at] >> 1]

    def _raise_rank(self, variable):
        """Choose this variable ahead of all others when it is open."""
        self._best_rank -= 1
        self._ranks[variable] = self._best_rank
        heappush(self._queue, (self._best_rank, variable))

    def _go_back(self, level):
        """Forget what was assigned behind a level."""
        start = self._starts[level]
        for literal in self._trail[start:]:
            variable = literal >> 1
            self._truth[literal] = 0
            self._truth[literal ^ 1] = 0
            self._likely[variable] = literal & 1
            heappush(self._queue, (self._ranks[variable], variable))
        del self._trail[start:]
        del self._starts[level:]
        self._head = start
