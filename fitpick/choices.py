"""Choices of a register's lines: what fits together and is led to by the wishes, and the best of them."""

from fitpick.fitting import Fitting
from fitpick.solving import ALWAYS, FAILS


def circle_around(name, needed):
    # The name and all those that need it, at once or by others; needed: for each name those that it needs.
    circle = {name: True}
    waiting = [name]
    while len(waiting) > 0:
        wanted = waiting.pop()
        for other in needed:
            if other not in circle and wanted in needed[other]:
                circle[other] = True
                waiting.append(other)
    return circle


class Choices(Fitting):
    def __init__(self, lines, wishes):
        Fitting.__init__(self, lines, wishes)
        for wish in wishes:
            self.bind(ALWAYS, wish)
        self.bind_to_needers()
        # The numbers of the lines of the choice that was found last.
        self.found = []

    def bind_to_needers(self):
        # All this would come out of lost names as well, but only by one search after the other.
        wished = [wish[0] for wish in self.wishes]
        for name in self.names:
            if name not in wished:
                self.let_in(name, [name])
        possible = [number for number, line in enumerate(self.chosen) if self.solver.value[line] != FAILS]
        for name in self.find_lost(possible):
            self.solver.require([self.packages[name].steps[-1]])

    def find_entries(self, circle):
        # The numbers of the lines from outside the circle that need one of the circle.
        numbers = []
        for name in circle:
            numbers.extend([number for number in self.packages[name].needers if self.lines[number].name not in circle])
        return numbers

    def let_in(self, name, circle):
        # The name is chosen only if a line from outside the circle needs one of the circle.
        entries = [self.chosen[number] for number in self.find_entries(circle)]
        self.solver.require([self.packages[name].steps[-1]] + entries)

    def find_lost(self, numbers):
        # Those names of these lines that no wish leads to, each with the names that it needs.
        needed = {}
        for number in numbers:
            line = self.lines[number]
            needed.setdefault(line.name, []).extend([need[0] for need in line.needs])
        waiting = [wish[0] for wish in self.wishes]
        while len(waiting) > 0:
            name = waiting.pop()
            if name in needed:
                waiting.extend(needed.pop(name))
        return needed

    def refuse_lost(self, lost):
        # All that leads to a lost name is lost as well: so only a line from outside can bring it in.
        for name in lost:
            self.let_in(name, circle_around(name, lost))

    def seek(self, assumed):
        # The clauses let through lines that only need one another: these are refused when they come up.
        while self.solver.solve(assumed):
            model = self.solver.model
            numbers = [number for number, line in enumerate(self.chosen) if model[line >> 1]]
            lost = self.find_lost(numbers)
            if len(lost) == 0:
                self.found = numbers
                return True
            self.refuse_lost(lost)
        return False

    def step_found(self, package):
        for step, number in enumerate(package.numbers):
            if number in self.found:
                return step
        return len(package.numbers)

    def improve(self):
        for name in self.names:
            package = self.packages[name]
            top = len(package.numbers)
            step = self.step_found(package)
            while step < top and self.seek([package.steps[step + 1]]):
                step = self.step_found(package)
            # From here on the later names are looked at with this one as it is; that it can't be higher is known.
            self.solver.require([package.steps[step]])
