"""The search for answers that satisfy clauses, on which promises 2 and 3 stand."""

import itertools
import random
import unittest

from fitpick.solving import ALWAYS, Solver, luby


def satisfied(clauses, answers):
    """answers: for each question True or False."""
    return all(any(answers[literal >> 1] == (literal % 2 == 0) for literal in clause) for clause in clauses)


def possible(count, clauses):
    for answers in itertools.product((True, False), repeat=count):
        # Question 0 is always answered yes.
        if satisfied(clauses, (True,) + answers):
            return True
    return False


def solver_with(count, clauses):
    solver = Solver()
    for number in range(count):
        solver.ask(number % 2 == 0)
    for clause in clauses:
        solver.require(clause)
    return solver


def some_clauses(source, count):
    clauses = []
    for _ in range(source.randint(1, 5 * count)):
        size = source.choice((1, 2, 2, 3, 3, 3, 3, 4))
        clauses.append([2 * source.randint(1, count) + source.randint(0, 1) for _ in range(size)])
    return clauses


class Solving(unittest.TestCase):
    def check(self, solver, count, clauses, assumed):
        together = clauses + [[literal] for literal in assumed]
        answer = solver.solve(assumed)
        self.assertEqual(answer, possible(count, together), (clauses, assumed))
        if answer:
            self.assertTrue(satisfied(together, solver.model))
        else:
            self.assertLessEqual(set(solver.core), set(assumed))
            self.assertFalse(possible(count, clauses + [[literal] for literal in solver.core]))

    def test_nothing_asked(self):
        self.assertTrue(Solver().solve([]))
        self.assertTrue(Solver().solve([ALWAYS]))
        solver = Solver()
        self.assertFalse(solver.solve([ALWAYS ^ 1]))
        self.assertEqual(solver.core, [ALWAYS ^ 1])

    def test_empty_clause(self):
        for clause in ([], [ALWAYS ^ 1]):
            solver = solver_with(2, [clause])
            self.assertFalse(solver.solve([]))
            self.assertEqual(solver.core, [])

    def test_liking_is_tried_first(self):
        solver = solver_with(4, [])
        self.assertTrue(solver.solve([]))
        self.assertEqual(solver.model, [True, True, False, True, False])

    def test_assumed_against_each_other(self):
        solver = solver_with(2, [])
        self.assertFalse(solver.solve([2, 4, 3]))
        self.assertEqual(sorted(solver.core), [2, 3])
        self.assertTrue(solver.solve([2, 4]))

    def test_clauses_against_going_through_all(self):
        source = random.Random(3)
        for _ in range(600):
            count = source.randint(1, 8)
            clauses = some_clauses(source, count)
            self.check(solver_with(count, clauses), count, clauses, [])

    def test_one_search_after_the_other(self):
        source = random.Random(4)
        for _ in range(200):
            count = source.randint(2, 7)
            clauses = []
            solver = solver_with(count, clauses)
            for _ in range(8):
                more = some_clauses(source, count)[:4]
                for clause in more:
                    solver.require(clause)
                clauses += more
                numbers = source.sample(range(1, count + 1), source.randint(0, count))
                self.check(solver, count, clauses, [2 * number + source.randint(0, 1) for number in numbers])

    def test_long_search(self):
        """Nine guests in eight rooms: long enough to start over, to forget and to tidy up."""
        solver = Solver()
        inside = [[solver.ask(False) for room in range(8)] for guest in range(9)]
        for guest in inside:
            solver.require(guest)
        free = solver.ask(False)
        for room in range(8):
            for one, other in itertools.combinations(range(9), 2):
                solver.require([inside[one][room] ^ 1, inside[other][room] ^ 1, free])
        self.assertFalse(solver.solve([inside[0][0], free ^ 1]))
        self.assertIn(free ^ 1, solver.core)
        self.assertTrue(solver.solve([inside[0][0]]))
        self.assertTrue(solver.model[free >> 1])

    def test_luby(self):
        self.assertEqual([luby(k) for k in range(15)], [1, 1, 2, 1, 1, 2, 4, 1, 1, 2, 1, 1, 2, 4, 8])


if __name__ == "__main__":
    unittest.main()
