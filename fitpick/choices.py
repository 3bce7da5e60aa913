"""Choices of a register's lines that fit together, and the best of them.

The versions of a package are steps, the least at the bottom, and above the greatest stands one more: that the package
isn't chosen. So, of two choices, the better one stands higher at the first name where they differ. Each step is a
question, whether a choice stands there or above. What fits a need are steps that follow one another, so that the lowest
and the one above the highest tell it.
"""

from fitpick.solving import ALWAYS, FAILS, Solver


class Package:
    def __init__(self):
        # The numbers of its lines by rising version, and a literal for each step.
        self.numbers = []
        self.steps = [ALWAYS]
        # The numbers of the lines that need it.
        self.needers = []


def find_packages(lines):
    packages = {}
    for number in sorted(range(len(lines)), key=lambda place: lines[place].version):
        name = lines[number].name
        if name not in packages:
            packages[name] = Package()
        packages[name].numbers.append(number)
    for number, line in enumerate(lines):
        for need in line.needs:
            if need[0] in packages:
                packages[need[0]].needers.append(number)
    return packages


def order_names(packages, wishes):
    ordered = {}
    for wish in wishes:
        if wish[0] in packages:
            ordered[wish[0]] = True
    for name in sorted(packages):
        ordered[name] = True
    return list(ordered)


def circle_around(name, needed):
    # The name and all those that need it, at once or by others; needed: for each name those that it needs.
    circle = {name: True}
    waiting = [name]
    while len(waiting) > 0:
        wanted = waiting.pop()
        for other in needed:
            if other not in circle and wanted in needed[other]:
                circle[other] = True
                waiting.append(other)
    return circle


class Choices:
    def __init__(self, lines, wishes):
        self.lines = lines
        self.wishes = wishes
        self.packages = find_packages(lines)
        self.names = order_names(self.packages, wishes)
        self.solver = Solver()
        # What is asked last is tried first: so the first name's steps come last, the highest at the very end.
        self.chosen = [self.solver.ask(False) for line in lines]
        for name in reversed(self.names):
            self.build_steps(self.packages[name])
        for number, line in enumerate(lines):
            for need in line.needs:
                self.bind(self.chosen[number], need)
        for wish in wishes:
            self.bind(ALWAYS, wish)
        self.bind_to_needers()
        # The numbers of the lines of the choice that was found last.
        self.found = []

    def build_steps(self, package):
        for number in package.numbers:
            line = self.chosen[number]
            here = package.steps[-1]
            above = self.solver.ask(True)
            package.steps.append(above)
            self.solver.require([above ^ 1, here])
            self.solver.require([line ^ 1, here])
            self.solver.require([line ^ 1, above ^ 1])
            self.solver.require([line, here ^ 1, above])

    def fitting_places(self, need):
        if need[0] not in self.packages:
            return []
        versions = [self.lines[number].version for number in self.packages[need[0]].numbers]
        return [place for place, version in enumerate(versions) if need[1] <= version and version < need[2]]

    def bind(self, needer, need):
        # What fits lies side by side, so that the steps at its two ends are enough.
        places = self.fitting_places(need)
        if len(places) == 0:
            self.solver.require([needer ^ 1])
        else:
            steps = self.packages[need[0]].steps
            self.solver.require([needer ^ 1, steps[places[0]]])
            self.solver.require([needer ^ 1, steps[places[-1] + 1] ^ 1])

    def bind_to_needers(self):
        # All this would come out of lost names as well, but only by one search after the other.
        wished = [wish[0] for wish in self.wishes]
        for name in self.names:
            if name not in wished:
                self.let_in(name, [name])
        possible = [number for number, line in enumerate(self.chosen) if self.solver.value[line] != FAILS]
        for name in self.find_lost(possible):
            self.solver.require([self.packages[name].steps[-1]])

    def let_in(self, name, circle):
        # The name is chosen only if a line from outside the circle needs one of the circle.
        needers = []
        for other in circle:
            needers.extend([number for number in self.packages[other].needers if self.lines[number].name not in circle])
        self.solver.require([self.packages[name].steps[-1]] + [self.chosen[number] for number in needers])

    def find_lost(self, numbers):
        # Those names of these lines that no wish leads to, each with the names that it needs.
        needed = {}
        for number in numbers:
            line = self.lines[number]
            needed.setdefault(line.name, []).extend([need[0] for need in line.needs])
        waiting = [wish[0] for wish in self.wishes]
        while len(waiting) > 0:
            name = waiting.pop()
            if name in needed:
                waiting.extend(needed.pop(name))
        return needed

    def refuse_lost(self, lost):
        # All that leads to a lost name is lost as well: so only a line from outside can bring it in.
        for name in lost:
            self.let_in(name, circle_around(name, lost))

    def seek(self, assumed):
        # The clauses let through lines that only need one another: these are refused when they come up.
        while self.solver.solve(assumed):
            model = self.solver.model
            numbers = [number for number, line in enumerate(self.chosen) if model[line >> 1]]
            lost = self.find_lost(numbers)
            if len(lost) == 0:
                self.found = numbers
                return True
            self.refuse_lost(lost)
        return False

    def step_found(self, package):
        for step, number in enumerate(package.numbers):
            if number in self.found:
                return step
        return len(package.numbers)

    def improve(self):
        for name in self.names:
            package = self.packages[name]
            top = len(package.numbers)
            step = self.step_found(package)
            while step < top and self.seek([package.steps[step + 1]]):
                step = self.step_found(package)
            # From here on the later names are looked at with this one as it is; that it can't be higher is known.
            self.solver.require([package.steps[step]])
