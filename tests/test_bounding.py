"""Keeping most of an earlier choice by the bound alone, which pk_keep takes to only where its goals take too long."""

import itertools
import random
import unittest

from fitpick.bounding import Bound, keep_by_bound
from fitpick.choices import Choices
from fitpick.clashes import find_clashes, grow_clique
from fitpick.keeping import ask_goals
from fitpick.registers import read_earlier, read_lines, read_wishes
from fitpick.solving import FAILS, UNSET
from plain import (
    all_choices, common, covering, heads, hubs, letters, lines_of, places, rows, some_register, text_of, told,
    told_by_tops, told_by_walks, two_sides, wishes_of,
)


def choices_of(register, wish):
    return Choices(read_lines(list(register.encode())), read_wishes(list(wish.encode())))


def bound_of(choices, old):
    earlier = read_earlier(list(old.encode()))
    return Bound(choices, ask_goals(choices, earlier), earlier)


def kept_by_bound(register, wish, old):
    """The best choice's text; None if there's no choice or nothing to keep."""
    choices = choices_of(register, wish)
    earlier = read_earlier(list(old.encode()))
    goals = ask_goals(choices, earlier)
    if not choices.seek([]) or not goals:
        return None
    keep_by_bound(choices, goals, earlier)
    choices.improve()
    lines = lines_of(register)
    return text_of([lines[number] for number in choices.found])


class Keeping(unittest.TestCase):
    def check(self, register, wish, old, text):
        self.assertEqual(kept_by_bound(register, wish, old), text, (register, wish, old))

    def test_small_registers_against_going_through_all(self):
        source = random.Random(22)
        tried = 0
        for _ in range(1500):
            register, wish, old = some_register(source)
            text = kept_by_bound(register, wish, old)
            if text is not None:
                tried += 1
                self.assertEqual(text, told(register, wish, old), (register, wish, old))
        self.assertGreater(tried, 300)

    def test_walks(self):
        source = random.Random(23)
        for few, versions, many, others in ((2, 3, 5, 2), (3, 4, 6, 3), (4, 3, 7, 2), (4, 4, 8, 3)) * 3:
            register, wish, old = two_sides(source, few, versions, many, others)
            self.check(register, wish, old, told_by_walks(register, wish, old))

    def test_walks_through_all_others(self):
        # Each name leads to some others, whichever: there's one side only.
        source = random.Random(24)
        for _ in range(12):
            names = [letters(k) for k in range(7)]
            lines = []
            for name in names:
                others = source.sample([other for other in names if other != name], 2)
                lines += [f"{name} {v}.0.0 {other}:*" for v, other in enumerate(others)]
            old = rows(*[line[:8] for line in lines if source.random() < 0.7])
            self.check(rows(*lines), "aa:*", old, told_by_walks(rows(*lines), "aa:*", old))

    def test_leaves_brought_in_by_few_tops(self):
        source = random.Random(25)
        for tops, versions, leaves, each in ((2, 8, 20, 6), (3, 6, 24, 6), (4, 4, 20, 5)):
            register, wish, old = covering(source, tops, versions, leaves, each)
            self.check(register, wish, old, told_by_tops(register, wish, old))

    def test_rings(self):
        # Of five in a ring no two beside each other: the shares are halves, and two and a half are too many.
        for count in (1, 2, 4):
            names = [f"n{letters(k)}" for k in range(5 * count)]
            lines, wish = hubs(names)
            for k, name in enumerate(names):
                lines += [f"{name} 1.0.0 {names[k - k % 5 + (k + 1) % 5]}:=2.0.0", f"{name} 2.0.0"]
            old = rows(*[f"{name} 1.0.0" for name in names])
            text = kept_by_bound(rows(*lines), wish, old)
            self.assertEqual(len(set(text.splitlines()) & set(old.splitlines())), 2 * count)


class Greatest(unittest.TestCase):
    def test_never_too_small(self):
        source = random.Random(26)
        tried = 0
        tight = 0
        for _ in range(600):
            register, wish, old = some_register(source)
            choices = choices_of(register, wish)
            if choices.seek([]):
                found = [common(one, old) for one in all_choices(lines_of(register), wishes_of(wish))]
                greatest = bound_of(choices, old).greatest()
                self.assertGreaterEqual(greatest, max(found))
                tried += 1
                tight += greatest == max(found)
        self.assertGreater(10 * tight, 9 * tried)

    def test_two_sides(self):
        source = random.Random(27)
        for few, versions, many, others in ((8, 8, 16, 4), (7, 9, 14, 4), (4, 8, 24, 4)):
            register, wish, old = two_sides(source, few, versions, many, others)
            self.assertEqual(bound_of(choices_of(register, wish), old).greatest(), 2 * few + 1)


class Sound(unittest.TestCase):
    """Whatever the bound says, no choice that reaches the aim is ruled out by it."""

    def setUp(self):
        self.source = random.Random(29)

    def some_case(self):
        kind = self.source.randrange(4)
        if kind == 0:
            return two_sides(self.source, 2, 3, 4, 2)
        if kind == 1:
            return covering(self.source, 2, 3, 5, 3)
        if kind == 2:
            return self.some_ring(self.source.choice((3, 4, 5)))
        return some_register(self.source)

    def some_ring(self, count):
        """Names of which many can't be kept together, with ranges of some versions."""
        names = "abcde"[:count]
        lines = []
        for name, v in itertools.product(names, range(3)):
            needs = []
            for other in names:
                if other != name and self.source.random() < 0.4:
                    needs.append(f"{other}:{self.source.choice(('<1.0.0', '<2.0.0', '>1.0.0', '>2.0.0', '=1.0.0'))}")
            lines.append(" ".join([f"{name} {v}.0.0"] + needs))
        wish = " ".join(f"{name}:*" for name in self.source.sample(names, self.source.randint(1, count)))
        return rows(*lines), wish, rows(*[f"{name} {self.source.randrange(3)}.0.0" for name in names for _ in "12"])

    def prepare(self, register, wish, old, every):
        """The choices, the bound, and for each choice the literals that hold in it; None where there's nothing to do."""
        choices = choices_of(register, wish)
        earlier = read_earlier(list(old.encode()))
        goals = ask_goals(choices, earlier)
        if not choices.seek([]) or not goals:
            return None
        found = [(common(one, old), self.holding(choices, goals, old, one)) for one in every]
        return choices, Bound(choices, goals, earlier), found

    def prepare_some(self):
        register, wish, old = self.some_case()
        return self.prepare(register, wish, old, all_choices(lines_of(register), wishes_of(wish)))

    def prepare_guests(self):
        """Four guests that need a room of their own, but there are three rooms; the top tells which of them are there."""
        register, wish = places(4, 3)
        guests = wish.split(" ")
        tops = [guests, guests[:3], guests[1:], guests[::3]]
        lines = [f"top {v}.0.0 " + " ".join(needs) for v, needs in enumerate(tops)] + register.splitlines()
        whole = {line[:2]: line for line in lines_of(rows(*lines))}
        every = []
        for v, needs in enumerate(tops):
            for rooms in itertools.permutations(range(3), len(needs)):
                chosen = {"top": whole[("top", (v, 0, 0))]}
                for guest, room in zip(needs, rooms):
                    chosen[guest[:3]] = whole[(guest[:3], (room, 0, 0))]
                    name = f"r{letters(room)}"
                    chosen[name] = whole[(name, (guests.index(guest), 0, 0))]
                every.append(chosen)
        old = rows(*[line for line in heads(lines).splitlines() if self.source.random() < 0.6])
        return self.prepare(rows(*lines), "top:*", old, every)

    def holding(self, choices, goals, old, chosen):
        """Of the literals that the bound speaks of, those that hold in a choice."""
        labels = [bytes(line.label).decode() for line in choices.lines]
        picked = text_of(chosen.values()).splitlines()
        holding = [literal if label in picked else literal ^ 1 for label, literal in zip(labels, choices.chosen)]
        left = list(goals)
        for name in choices.names:
            package = choices.packages[name]
            own = [labels[number] for number in package.numbers]
            is_there = any(label in picked for label in own)
            holding.append(package.steps[-1] ^ (1 if is_there else 0))
            if any(label in old.splitlines() for label in own):
                is_kept = any(label in picked and label in old.splitlines() for label in own)
                holding.append(left.pop(0) ^ (0 if is_kept else 1))
        return holding

    def check_clause(self, clause, aim, least, found):
        """In each choice that reaches the aim one of the clause's literals holds."""
        for kept, holding in found:
            if kept >= least:
                self.assertTrue(set(clause) & set(holding + [aim]), (clause, holding))

    def try_some(self, choices, bound, found):
        """Some answers one after the other, and what the bound says to each."""
        solver = choices.solver
        least = max(0, max(kept for kept, _ in found) - self.source.choice((0, 0, 0, 1)))
        solver.try_literal(bound.aim_at(least) ^ self.source.choice((0, 0, 1)))
        if solver.value[bound.aim] == FAILS:
            # Without an aim it speaks of all choices.
            least = 0
        told = 0
        for _ in range(self.source.randint(1, 5)):
            failed = solver.propagate()
            while failed is None:
                start = len(solver.trail)
                failed = bound.check()
                for literal in solver.trail[start:]:
                    self.check_clause(solver.reason[literal >> 1], bound.aim, least, found)
                    told += 1
                if failed is None and start == len(solver.trail):
                    break
                if failed is not None:
                    self.assertTrue(all(solver.value[literal] == FAILS for literal in failed))
                    self.check_clause(failed, bound.aim, least, found)
                    told += 1
                else:
                    failed = solver.propagate()
            open_ones = [option[1] for group in bound.groups for option in group if solver.value[option[1]] == UNSET]
            if failed is not None or not open_ones:
                break
            solver.try_literal(self.source.choice(open_ones) ^ self.source.randint(0, 1))
        solver.back_to(0)
        solver.require([bound.aim ^ 1])
        return told

    def test_what_it_says(self):
        told_of = 0
        for case in [self.prepare_some() for _ in range(400)]:
            if case is not None:
                for _ in range(8):
                    told_of += self.try_some(*case)
        self.assertGreater(told_of, 1000)

    def test_what_it_says_of_guests(self):
        told_of = 0
        for case in [self.prepare_guests() for _ in range(40)]:
            for _ in range(40):
                told_of += self.try_some(*case)
        self.assertGreater(told_of, 1000)

    def test_every_choice_is_within_its_sums(self):
        for case in [self.prepare_some() for _ in range(300)] + [self.prepare_guests() for _ in range(10)]:
            if case is not None:
                choices, bound, found = case
                bound.greatest()
                for _, holding in found:
                    shares = [1 if literal in holding else 0 for literal in choices.chosen]
                    for quantity, terms, constant in bound.sums:
                        amount = constant + sum(times * shares[number] for number, times in terms)
                        self.assertGreaterEqual(amount, 0)
                        if bound.program.high[quantity] is not None:
                            self.assertLessEqual(amount, 1)


class Clashes(unittest.TestCase):
    def test_what_is_ruled_out(self):
        lines = ("a 1.0.0 b:=1.0.0", "a 2.0.0", "b 1.0.0", "b 2.0.0 c:>2.0.0", "c 1.0.0", "c 2.0.0")
        clashes = find_clashes(choices_of(rows(*lines), "a:* b:* c:*"))
        self.assertEqual(clashes, [0b001010, 0b000001, 0b001000, 0b010101, 0b101000, 0b010000])

    def test_cliques(self):
        # 0, 1, 2 clash with one another; 3 with 0 alone.
        clashes = [0b1110, 0b0101, 0b0011, 0b0001]
        for order in itertools.permutations(range(4)):
            self.assertEqual(set(grow_clique(1, order, clashes)), {0, 1, 2})
            self.assertEqual(set(grow_clique(3, order, clashes)), {0, 3})


if __name__ == "__main__":
    unittest.main()
