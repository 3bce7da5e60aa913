"""Lines of which no two can be chosen together."""

from fitpick.solving import FAILS, UNSET


def find_clashes(choices):
    # For each line those that it clashes with, as the bits of a number: what its choice alone rules out.
    solver = choices.solver
    clashes = [0 for line in choices.lines]
    for number, literal in enumerate(choices.chosen):
        if solver.value[literal] == UNSET:
            solver.try_literal(literal)
            failed = solver.propagate()
            out = [other for other, one in enumerate(choices.chosen) if solver.value[one] == FAILS]
            solver.back_to(0)
            if failed is not None:
                solver.require([literal ^ 1])
            for other in out:
                clashes[number] |= 1 << other
                clashes[other] |= 1 << number
    return clashes


def grow_clique(start, order, clashes):
    # Lines that clash with one another, from a first one on, and those that come first in the order before others.
    clique = [start]
    common = clashes[start]
    for number in order:
        if (common >> number) & 1 == 1:
            clique.append(number)
            common &= clashes[number]
    return clique
