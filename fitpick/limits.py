"""What a sum of a linear program's columns can come to at most, and which answers are to blame that it isn't more.

Of each name one thing holds: that one of its lines is chosen, or that none is. So it adds the greatest of what these
add, of those that are not ruled out yet.
"""

from fitpick.solving import FAILS


def share_of(quantity, row, places):
    # Quantities that follow have their part in what is set, and one that is left out has none.
    if quantity is None or places[quantity] is None or places[quantity] < 0:
        return 0
    return row[places[quantity]]


class Limit:
    def __init__(self, solver, groups, program, row, amount):
        # groups: for each name what may hold of it, the quantity and the literal; the row comes to the amount now.
        self.solver = solver
        self.groups = groups
        self.shares = []
        self.bests = []
        for group in groups:
            shares = [share_of(option[0], row, program.places) for option in group]
            self.shares.append(shares)
            possible = [share for share, option in zip(shares, group) if solver.value[option[1]] != FAILS]
            self.bests.append(max(possible))
        settings = program.settings
        rest = amount - sum([entry * setting for entry, setting in zip(row, settings) if setting != 0])
        self.most = rest + sum(self.bests)

    def find_ruled_out(self, left_out):
        # What would add more, had it not been ruled out by a try: how deep that was, what it adds, where, its literal.
        ruled_out = []
        for number, group in enumerate(self.groups):
            if number != left_out:
                for share, option in zip(self.shares[number], group):
                    depth = self.solver.level[option[1] >> 1]
                    if share > self.bests[number] and depth > 0:
                        ruled_out.append((depth, share, number, option[1]))
        return ruled_out

    def reasons(self, room, left_out):
        # Literals that fail: as long as they do, the sum stays below what it can come to at most now and the room.
        # One group may be left out. The deepest are spared, as far as the room allows: so the search goes back far.
        ruled_out = self.find_ruled_out(left_out)
        tops = list(self.bests)
        for depth, share, number, literal in sorted(ruled_out, reverse=True):
            more = share - tops[number]
            if more > 0 and more < room:
                room -= more
                tops[number] = share
        return [literal for depth, share, number, literal in ruled_out if share > tops[number]]
