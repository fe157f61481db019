"""The search for values that meet clauses, on which all decisions rest."""

import itertools
import random
import unittest

from onlyviews.formulas import FALSE, TRUE, Formula
from onlyviews.solving import Solver


class SolverTest(unittest.TestCase):

    def test_random_clauses(self):
        answers = []
        for seed in range(600):
            chance = random.Random(seed)
            many = chance.randint(1, 9)
            clauses = [[2 * variable + chance.randrange(2) for variable in chance.sample(range(many), min(many, width))]
                       for width in chance.choices([1, 2, 3, 3, 3], k=chance.randint(0, 5 * many))]
            solver = Solver()
            for _ in range(many):
                solver.variable(chance.random() < 0.5)
            for clause in clauses:
                solver.demand(clause)
            met = any(all(any(values[literal >> 1] != literal & 1 for literal in clause) for clause in clauses)
                      for values in itertools.product((0, 1), repeat=many))
            answers.append(solver.solve())
            self.assertIs(answers[-1], met, seed)
            if met:
                self.assertTrue(all(any(solver.is_true(literal) for literal in clause) for clause in clauses), seed)
                self.assertTrue(all(solver.is_true(2 * at) != solver.is_true(2 * at + 1) for at in range(many)), seed)
        self.assertTrue(100 < sum(answers) < 500)

    def test_more_birds_than_holes(self):
        # Each of six birds is in one of five holes, and no two are in the same one: this takes learning.
        solver = Solver()
        holes = [[solver.variable(False) for _ in range(5)] for _ in range(6)]
        for bird in holes:
            solver.demand(bird)
        for hole in range(5):
            for one, other in itertools.combinations(range(6), 2):
                solver.demand([holes[one][hole] + 1, holes[other][hole] + 1])
        self.assertIs(solver.solve(), False)

    def test_no_clauses_and_empty_ones(self):
        self.assertIs(Solver().solve(), True)
        solver = Solver()
        solver.demand([])
        self.assertIs(solver.solve(), False)


class FormulaTest(unittest.TestCase):

    def test_constants(self):
        formula = Formula()
        literal = formula.variable()
        self.assertEqual([formula.either([]), formula.both([])], [FALSE, TRUE])
        self.assertEqual([formula.either([literal, TRUE]), formula.both([literal, FALSE])], [TRUE, FALSE])
        self.assertEqual([formula.either([literal, FALSE]), formula.both([literal, TRUE])], [literal, literal])
        self.assertEqual([formula.either([literal, literal ^ 1]), formula.both([literal ^ 1, literal])], [TRUE, FALSE])
        formula.demand([TRUE])
        self.assertTrue(formula.solve())
        self.assertTrue(formula.is_true(TRUE))
        self.assertFalse(formula.is_true(FALSE))

    def test_demands(self):
        for wanted in itertools.product((0, 1), repeat=3):
            formula = Formula()
            literals = [formula.variable(True) for _ in range(3)]
            either, both = formula.either(literals), formula.both(literals)
            self.assertEqual([formula.either(literals[::-1]), formula.both(literals * 2)], [either, both])
            for literal, one in zip(literals, wanted):
                formula.demand([literal ^ 1 ^ one])
            self.assertTrue(formula.solve())
            self.assertEqual([formula.is_true(either), formula.is_true(both)], [any(wanted), all(wanted)])

    def test_what_cannot_be(self):
        formula = Formula()
        literal = formula.variable()
        formula.demand([literal])
        formula.demand([literal ^ 1, FALSE])
        self.assertFalse(formula.solve())


if __name__ == "__main__":
    unittest.main()
