"""Choices that keep as many lines of an earlier choice as can be.

At first it's a goal for each of its packages that a line is kept. Where some goals can't be met together, one at least
is given up, and in their place comes the goal that it's one alone; if that can't be met either, that it's two alone;
and so on. Each time one line less is kept at best, and no choice with that many is lost: so whatever meets all goals in
the end is a choice with most lines kept, and each such choice meets them.
"""


def add_counts(solver, left, right):
    both = [solver.ask(False) for literal in left + right]
    for side in (left, right):
        for place, literal in enumerate(side):
            solver.require([literal ^ 1, both[place]])
    for place, literal in enumerate(left):
        for step, other in enumerate(right, start=1):
            solver.require([literal ^ 1, other ^ 1, both[place + step]])
    return both


def count_up(solver, literals):
    # Literals that must hold where one at least of those given holds, where two, where three and so on.
    counts = [[literal] for literal in literals]
    while len(counts) > 1:
        counts = counts[2:] + [add_counts(solver, counts[0], counts[1])]
    return counts[0]


class Goals:
    def __init__(self, literals):
        # Each goal with those that come in its place, one after the other.
        self.later = {}
        for literal in literals:
            self.later[literal] = []

    def aim_for(self, literals):
        if len(literals) > 0:
            self.later[literals[0]] = literals[1:]

    def give_up(self, solver, core):
        # One of these fails in any case: so the first goal in their place is that no second one does.
        for literal in core:
            self.aim_for(self.later.pop(literal))
        counts = count_up(solver, [literal ^ 1 for literal in core])
        self.aim_for([literal ^ 1 for literal in counts[1:]])


def keep_by_goals(choices, literals):
    goals = Goals(literals)
    while not choices.seek(list(goals.later)):
        goals.give_up(choices.solver, choices.solver.core)
    for literal in goals.later:
        choices.solver.require([literal])
