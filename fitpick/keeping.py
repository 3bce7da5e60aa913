"""The best choice, of those that keep as many lines of an earlier one as can be.

There are two ways to find what can be kept. By its goals it's mostly found at once; but where it takes a count of many
lines to see that so many can't be kept together, only the bound shows it. So the first is tried for a while.
"""

from fitpick.bounding import keep_by_bound
from fitpick.choices import Choices
from fitpick.goals import keep_by_goals
from fitpick.solving import TooLong

# How many dead ends the first way may meet: what it finds at all, it mostly finds before, and there are some thousand
# of them in a second.
PATIENCE = 4000


def ask_goals(choices, earlier):
    # A literal for each package with lines in the earlier choice: that one of these lines is chosen.
    goals = []
    for name in choices.names:
        kept = []
        for number in choices.packages[name].numbers:
            if (name, choices.lines[number].version) in earlier:
                kept.append(choices.chosen[number])
        if len(kept) > 0:
            goal = choices.solver.ask(True)
            choices.solver.require([goal ^ 1] + kept)
            for literal in kept:
                choices.solver.require([literal ^ 1, goal])
            goals.append(goal)
    return goals


def try_goals(choices, goals):
    # Whether it didn't take too long.
    solver = choices.solver
    solver.patience = solver.ends + PATIENCE
    try:
        keep_by_goals(choices, goals)
        choices.improve()
    except TooLong:
        return False
    return True


def find_best(lines, wishes, earlier):
    # The numbers of the best choice's lines, of those choices with most lines of the earlier one; None if there's none.
    choices = Choices(lines, wishes)
    if not choices.seek([]):
        return None
    goals = ask_goals(choices, earlier)
    if len(goals) == 0:
        choices.improve()
    elif not try_goals(choices, goals):
        # What the first way has added is only in the way of the second.
        choices = Choices(lines, wishes)
        keep_by_bound(choices, ask_goals(choices, earlier), earlier)
        choices.improve()
    return choices.found
