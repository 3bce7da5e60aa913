"""What a sum can come to at most, and which answers are to blame that it isn't more."""

import random
import unittest

from fitpick.limits import Limit
from fitpick.programs import Program
from fitpick.solving import FAILS, Solver


class Limits(unittest.TestCase):
    def setUp(self):
        self.source = random.Random(28)

    def some_groups(self):
        """Questions in groups, some of them ruled out by tries of different depth; of each group one at least is not."""
        solver = Solver()
        groups = []
        quantity = 0
        for _ in range(self.source.randint(1, 5)):
            group = []
            for _ in range(self.source.randint(1, 4)):
                group.append((quantity, solver.ask(True)))
                quantity += 1
            # That none is chosen, where there's no quantity for it.
            groups.append(group + [(None, solver.ask(True))] if self.source.random() < 0.5 else group)
        for depth in range(4):
            for group in groups:
                left = [option for option in group if solver.value[option[1]] != FAILS]
                if len(left) > 1 and self.source.random() < 0.5:
                    solver.put(self.source.choice(left)[1] ^ 1, None)
            solver.starts.append(len(solver.trail))
        return solver, groups, quantity

    def some_limit(self):
        solver, groups, count = self.some_groups()
        program = Program([self.source.choice((0, 1)) for _ in range(count)])
        row = [self.source.randint(-5, 5) for _ in range(count)]
        rest = self.source.randint(-3, 3)
        amount = rest + sum(entry * setting for entry, setting in zip(row, program.settings))
        return solver, groups, row, rest, Limit(solver, groups, program, row, amount)

    def most(self, groups, row, rest, out, left_out=None):
        """What it comes to at most where these literals fail; one group may be left out."""
        total = rest
        for number, group in enumerate(groups):
            if number != left_out:
                total += max(0 if quantity is None else row[quantity] for quantity, one in group if one not in out)
        return total

    def test_most(self):
        for _ in range(300):
            solver, groups, row, rest, limit = self.some_limit()
            out = [one for group in groups for _, one in group if solver.value[one] == FAILS]
            self.assertEqual(limit.most, self.most(groups, row, rest, out))

    def test_reasons_are_enough(self):
        for _ in range(1500):
            solver, groups, row, rest, limit = self.some_limit()
            room = self.source.randint(1, 8)
            left_out = self.source.choice((None, 0))
            reasons = limit.reasons(room, left_out)
            for literal in reasons:
                self.assertEqual(solver.value[literal], FAILS)
                self.assertGreater(solver.level[literal >> 1], 0)
            always = [one for group in groups for _, one in group if self.is_out_always(solver, one)]
            bare = limit.most if left_out is None else limit.most - limit.bests[0]
            self.assertLess(self.most(groups, row, rest, reasons + always, left_out), bare + room)

    def is_out_always(self, solver, literal):
        return solver.value[literal] == FAILS and solver.level[literal >> 1] == 0

    def test_the_deepest_are_spared(self):
        solver = Solver()
        group = [(number, solver.ask(True)) for number in range(3)]
        for number in (0, 1):
            solver.starts.append(len(solver.trail))
            solver.put(group[number][1] ^ 1, None)
        program = Program([0, 0, 0])
        limit = Limit(solver, [group], program, [5, 3, 0], 0)
        literals = [option[1] for option in group]
        self.assertEqual(limit.most, 0)
        # The second one was ruled out last, and adds 3; the first one adds 2 more.
        for room, reasons in ((1, [0, 1]), (3, [0, 1]), (4, [0]), (5, [0]), (6, []), (9, [])):
            self.assertEqual(limit.reasons(room, None), [literals[number] for number in reasons])
            self.assertEqual(limit.reasons(room, 0), [])


if __name__ == "__main__":
    unittest.main()
