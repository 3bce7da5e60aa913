"""An order for the lines of a choice, in which each comes behind what it needs."""


def reach_from(name, needed):
    # All that a name needs, at once or by others; needed: for each name those that it needs at once.
    reached = {}
    waiting = [name]
    while len(waiting) > 0:
        needer = waiting.pop()
        for other in needed[needer]:
            if other not in reached:
                reached[other] = True
                waiting.append(other)
    return reached


def find_ahead(lines):
    # For each name those that must be there before it: all that it needs and that don't need it, too.
    needed = {}
    for line in lines:
        needed[line.name] = [need[0] for need in line.needs]
    reached = {}
    for name in needed:
        reached[name] = reach_from(name, needed)
    ahead = {}
    for name in reached:
        ahead[name] = [other for other in reached[name] if name not in reached[other]]
    return ahead


def order_lines(lines):
    # The lines of a choice; always next is the first by its letters of those that may come.
    ahead = find_ahead(lines)
    waiting = sorted(lines, key=lambda line: line.name)
    ordered = []
    there = {}
    while len(waiting) > 0:
        place = 0
        while not all([other in there for other in ahead[waiting[place].name]]):
            place += 1
        line = waiting.pop(place)
        ordered.append(line)
        there[line.name] = True
    return ordered
