"""Linear programs in whole numbers, on which promise 3 stands where much must be given up."""

import itertools
import random
import unittest
from fractions import Fraction

from fitpick.programs import STUCK, TURNED, WHOLE, Program


class ProgramCase(unittest.TestCase):
    def run_through(self, program):
        state = TURNED
        while state == TURNED:
            state = program.step()
            self.assertLess(program.turns, 500)
        return state

    def shares(self, program, count):
        """What the shares come to."""
        return [Fraction(program.reckon([(number, 1)], 0), program.scale) for number in range(count)]

    def best_of_whole(self, gains, sums, fixed):
        """The greatest total of shares that are all 0 or 1; None if there are no such."""
        best = None
        for shares in itertools.product((0, 1), repeat=len(gains)):
            if all(shares[number] == share for number, share in fixed.items()):
                if all(self.within(shares, *one) for one in sums):
                    total = sum(gain * share for gain, share in zip(gains, shares))
                    best = total if best is None else max(best, total)
        return best

    def within(self, shares, terms, constant, high):
        amount = constant + sum(times * shares[number] for number, times in terms)
        return amount >= 0 and (high is None or amount <= high)

    def check(self, program, gains, sums, fixed):
        """That what comes out is the greatest total, or that there's none."""
        state = self.run_through(program)
        best = self.best_of_whole(gains, sums, fixed)
        if state == STUCK:
            self.assertIsNone(best)
            return
        self.assertEqual(state, WHOLE)
        shares = self.shares(program, len(gains))
        for number, share in enumerate(shares):
            self.assertTrue(fixed.get(number, 0) <= share <= fixed.get(number, 1))
        for one in sums:
            self.assertTrue(self.within(shares, *one))
        total = Fraction(program.total, program.scale)
        self.assertEqual(total, sum(gain * share for gain, share in zip(gains, shares)))
        if best is not None:
            self.assertGreaterEqual(total, best)
        self.nothing_tempts(program)

    def nothing_tempts(self, program):
        """No price is against where its column is set: so no other shares have a greater total."""
        for column, price in enumerate(program.prices):
            quantity = program.columns[column]
            self.assertIn(program.settings[column], (program.low[quantity], program.high[quantity]))
            if price > 0:
                self.assertEqual(program.settings[column], program.high[quantity])
            if price < 0:
                self.assertEqual(program.settings[column], program.low[quantity])


class Programs(ProgramCase):
    def test_without_sums(self):
        program = Program([1, 0, 1])
        self.assertEqual(self.run_through(program), WHOLE)
        self.assertEqual((program.total, program.scale), (2, 1))
        program.bound(0, 0, 0)
        program.bound(1, 1, 1)
        self.assertEqual(self.run_through(program), WHOLE)
        self.assertEqual(self.shares(program, 3), [0, 1, 1])
        self.assertEqual(program.total, 1)

    def test_halves(self):
        # Of any two of three one at most: in halves it's one and a half.
        program = Program([1, 1, 1])
        for pair in itertools.combinations(range(3), 2):
            terms = [(number, -1) for number in pair]
            program.bring_in(program.add_quantity(None), terms, 1)
        self.assertEqual(self.run_through(program), WHOLE)
        self.assertEqual(Fraction(program.total, program.scale), Fraction(3, 2))
        self.assertEqual(self.shares(program, 3), [Fraction(1, 2)] * 3)

    def test_stuck(self):
        program = Program([1, 1])
        program.bring_in(program.add_quantity(None), [(0, 1), (1, 1)], -1)
        for number in (0, 1):
            program.bound(number, 0, 0)
        self.assertEqual(self.run_through(program), STUCK)
        self.assertTrue(program.stuck[1])
        # What was bound can be let loose again.
        program.bound(1, 0, 1)
        self.assertEqual(self.run_through(program), WHOLE)
        self.assertEqual(self.shares(program, 2), [0, 1])

    def some_sums(self, source, count):
        sums = []
        for _ in range(source.randint(1, 8)):
            numbers = source.sample(range(count), source.randint(1, min(5, count)))
            terms = [(number, source.choice((-1, -1, 1, 1, 2))) for number in numbers]
            high = source.choice((None, None, 1))
            sums.append((terms, source.choice((0, 0, 1, 1, -1)), high))
        return sums

    def test_against_going_through_all(self):
        source = random.Random(16)
        for _ in range(300):
            count = source.randint(1, 7)
            gains = [source.choice((0, 1, 1)) for _ in range(count)]
            sums = self.some_sums(source, count)
            program = Program(gains)
            for terms, constant, high in sums:
                program.bring_in(program.add_quantity(high), terms, constant)
            self.check(program, gains, sums, {})

    def test_one_after_the_other(self):
        """Shares that are fixed and let loose, sums that come in late and that are left out for a while."""
        source = random.Random(17)
        for _ in range(150):
            count = source.randint(2, 7)
            gains = [source.choice((0, 1, 1)) for _ in range(count)]
            program = Program(gains)
            sums = []
            quantities = []
            for _ in range(8):
                for one in self.some_sums(source, count)[:2]:
                    sums.append(one)
                    quantities.append(program.add_quantity(one[2]))
                fixed = {number: source.randint(0, 1) for number in range(count) if source.random() < 0.3}
                for number in range(count):
                    program.bound(number, fixed.get(number, 0), fixed.get(number, 1))
                if source.random() < 0.3 and self.run_through(program) == WHOLE:
                    program.leave_out(count)
                for quantity, one in zip(quantities, sums):
                    if program.places[quantity] is None:
                        program.bring_in(quantity, one[0], one[1])
                self.check(program, gains, sums, fixed)


if __name__ == "__main__":
    unittest.main()
