"""Which wishes are to blame where there's no choice.

Whatever meets all wishes and needs has a choice in it: that what no wish leads to stays out. So only what fits together
counts here, and where some wishes can be met, so can any part of them.
"""

from fitpick.fitting import Fitting


def all_parts(count):
    # Of the numbers from 0 on, the parts with fewer first, then by the first number that differs.
    parts = [()]
    for number in range(count):
        parts = parts + [part + (number,) for part in parts]
    return sorted(parts, key=lambda part: (len(part), part))


def ask_wishes(fitting):
    # A literal for each wish: that it's to be met.
    asked = []
    for wish in fitting.wishes:
        literal = fitting.solver.ask(True)
        fitting.bind(literal, wish)
        asked.append(literal)
    return asked


def is_within(part, wider):
    for number in part:
        if number not in wider:
            return False
    return True


def find_core(lines, wishes):
    # The numbers of the fewest wishes that can't be met together, none if all can.
    fitting = Fitting(lines, wishes)
    asked = ask_wishes(fitting)
    if fitting.solver.solve(asked):
        return []
    # Each choice tells of more wishes than those it was sought for that they can be met: with these none is sought.
    met = []
    for part in all_parts(len(wishes)):
        if not any([is_within(part, wider) for wider in met]):
            if not fitting.solver.solve([asked[number] for number in part]):
                return list(part)
            model = fitting.solver.model
            met.append([number for number, literal in enumerate(asked) if model[literal >> 1]])
    return []
