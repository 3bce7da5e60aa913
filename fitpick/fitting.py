"""Lines of a register of which all that they need is met, as questions and clauses.

The versions of a package are steps, the least at the bottom, and above the greatest stands one more: that the package
isn't chosen. So, of two choices, the better one stands higher at the first name where they differ. Each step is a
question, whether a choice stands there or above. What fits a need are steps that follow one another, so that the lowest
and the one above the highest tell it.
"""

from fitpick.solving import ALWAYS, Solver


class Package:
    def __init__(self):
        # The numbers of its lines by rising version, and a literal for each step.
        self.numbers = []
        self.steps = [ALWAYS]
        # The numbers of the lines that need it.
        self.needers = []


def find_packages(lines):
    packages = {}
    for number in sorted(range(len(lines)), key=lambda place: lines[place].version):
        name = lines[number].name
        if name not in packages:
            packages[name] = Package()
        packages[name].numbers.append(number)
    for number, line in enumerate(lines):
        for need in line.needs:
            if need[0] in packages:
                packages[need[0]].needers.append(number)
    return packages


def order_names(packages, wishes):
    ordered = {}
    for wish in wishes:
        if wish[0] in packages:
            ordered[wish[0]] = True
    for name in sorted(packages):
        ordered[name] = True
    return list(ordered)


class Fitting:
    def __init__(self, lines, wishes):
        self.lines = lines
        self.wishes = wishes
        self.packages = find_packages(lines)
        self.names = order_names(self.packages, wishes)
        self.solver = Solver()
        # What is asked last is tried first: so the first name's steps come last, the highest at the very end.
        self.chosen = [self.solver.ask(False) for line in lines]
        for name in reversed(self.names):
            self.build_steps(self.packages[name])
        for number, line in enumerate(lines):
            for need in line.needs:
                self.bind(self.chosen[number], need)

    def build_steps(self, package):
        for number in package.numbers:
            line = self.chosen[number]
            here = package.steps[-1]
            above = self.solver.ask(True)
            package.steps.append(above)
            self.solver.require([above ^ 1, here])
            self.solver.require([line ^ 1, here])
            self.solver.require([line ^ 1, above ^ 1])
            self.solver.require([line, here ^ 1, above])

    def fitting_places(self, need):
        if need[0] not in self.packages:
            return []
        versions = [self.lines[number].version for number in self.packages[need[0]].numbers]
        return [place for place, version in enumerate(versions) if need[1] <= version and version < need[2]]

    def bind(self, needer, need):
        # What fits lies side by side, so that the steps at its two ends are enough.
        places = self.fitting_places(need)
        if len(places) == 0:
            self.solver.require([needer ^ 1])
        else:
            steps = self.packages[need[0]].steps
            self.solver.require([needer ^ 1, steps[places[0]]])
            self.solver.require([needer ^ 1, steps[places[-1] + 1] ^ 1])
