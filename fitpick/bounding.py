"""How many lines of an earlier choice can be kept at most, wherever the search stands.

Each line has a share in a linear program: 1 if it's chosen, 0 if not. What a choice asks for becomes sums of shares
that are kept in bounds, and the total is how many lines are kept. Shares need not be whole, so that the greatest total
may be more than any choice has; but it's found without a search. Where it's less than what is aimed at, the search has
come to a dead end, and the prices tell which of the answers so far are to blame.
"""

from fitpick.clashes import find_clashes, grow_clique
from fitpick.limits import Limit
from fitpick.programs import STUCK, TURNED, WHOLE, Program
from fitpick.solving import ALWAYS, FAILS, HOLDS, UNSET

# What the program's steps come to besides what one of them does: the total is less than the aim.
SHORT = 3

# Sums that are within their bounds by themselves are left out where there are more rows: each makes a step slower.
MOST_ROWS = 120
MOST_STEPS = 1000
MOST_CLIQUES = 10
MOST_ROUNDS = 5

# How many steps the program may take in all: the more dead ends the search has met, the more these are worth.
FIRST_STEPS = 500
STEPS_AN_END = 4
ENDS_TO_TRUST = 50

# Where the total is so far above the aim, a closer look is not worth its time.
FAR = 3


def find_spans(choices, number):
    # Of each need of a line that is for another name: that name, and the places of the first and last version that fit.
    spans = []
    for need in choices.lines[number].needs:
        places = choices.fitting_places(need)
        if len(places) > 0 and need[0] != choices.lines[number].name:
            spans.append((need[0], places[0], places[-1]))
    return spans


def sum_up_needs(choices, name):
    # Wherever versions fit a need of this name's lines: at least as many of them are chosen as of the lines that need
    # one of them.
    spans = []
    for number in choices.packages[name].numbers:
        spans.extend([(number, span) for span in find_spans(choices, number)])
    sums = []
    for wide in sorted(set([pair[1] for pair in spans])):
        terms = {}
        for number, span in spans:
            if span[0] == wide[0] and wide[1] <= span[1] and span[2] <= wide[2]:
                terms[number] = -1
        for number in choices.packages[wide[0]].numbers[wide[1]:wide[2] + 1]:
            terms[number] = 1
        sums.append(list(terms.items()))
    return sums


def sum_up_entries(choices, name):
    # A name that isn't wished for is chosen at most as often as lines of others that need it.
    if name in [wish[0] for wish in choices.wishes]:
        return []
    terms = {}
    for number in choices.find_entries([name]):
        terms[number] = 1
    for number in choices.packages[name].numbers:
        terms[number] = -1
    return [list(terms.items())]


class Bound:
    def __init__(self, choices, goals, earlier):
        self.choices = choices
        self.solver = choices.solver
        # A literal for each name with lines in the earlier choice, that one of them is chosen: so many of these must
        # hold if the aim holds.
        self.goals = goals
        self.least = 0
        self.aim = ALWAYS
        self.program = Program([1 if (line.name, line.version) in earlier else 0 for line in choices.lines])
        # By quantity, for those that are answers: the literal.
        self.literals = dict(enumerate(choices.chosen))
        # The sums, each with its quantity, its terms and its constant; and the cliques that are among them.
        self.sums = []
        self.cliques = {}
        # For each name what may hold of it, that a line is chosen or that none is: the quantity and the literal.
        self.groups = [self.add_group(choices.packages[name]) for name in choices.names]
        for name in choices.names:
            for terms in sum_up_needs(choices, name) + sum_up_entries(choices, name):
                self.add_sum(terms, 0, None)
        self.clashes = find_clashes(choices)

    def add_sum(self, terms, constant, high):
        quantity = self.program.add_quantity(high)
        self.sums.append((quantity, terms, constant))
        return quantity

    def add_group(self, package):
        group = [(number, self.choices.chosen[number]) for number in package.numbers]
        absent = package.steps[-1]
        if len(group) == 1:
            # The one line's share tells it already.
            return group + [(None, absent)]
        quantity = self.add_sum([(number, -1) for number in package.numbers], 1, 1)
        self.literals[quantity] = absent
        return group + [(quantity, absent)]

    def add_broken(self):
        # Sums are brought in where they are out of their bounds: most of them never are.
        program = self.program
        if len(program.rows) > MOST_ROWS:
            program.leave_out(len(self.choices.lines))
        added = False
        for quantity, terms, constant in self.sums:
            if program.places[quantity] is None:
                amount = program.reckon(terms, constant)
                high = program.high[quantity]
                too_much = high is not None and amount > high * program.scale
                if too_much or amount < program.low[quantity] * program.scale:
                    program.bring_in(quantity, terms, constant)
                    added = True
        return added

    def add_cliques(self):
        # Of lines that clash with one another one at most is chosen, but their shares may come to more.
        program = self.program
        amounts = [program.reckon([(number, 1)], 0) for number in range(len(self.choices.lines))]
        possible = [number for number, one in enumerate(self.choices.chosen) if self.solver.value[one] != FAILS]
        order = sorted(possible, key=lambda number: amounts[number], reverse=True)
        added = 0
        for start in order:
            if added < MOST_CLIQUES and amounts[start] > 0 and amounts[start] < program.scale:
                clique = tuple(sorted(grow_clique(start, order, self.clashes)))
                if clique not in self.cliques and sum([amounts[number] for number in clique]) > program.scale:
                    self.cliques[clique] = True
                    terms = [(number, -1) for number in clique]
                    program.bring_in(self.add_sum(terms, 1, None), terms, 1)
                    added += 1
        return added > 0

    def read_answers(self):
        program = self.program
        for quantity in self.literals:
            known = self.solver.value[self.literals[quantity]]
            low = 1 if known == HOLDS else 0
            high = 0 if known == FAILS else 1
            if low != program.low[quantity] or high != program.high[quantity]:
                program.bound(quantity, low, high)

    def take_steps(self, aimed):
        state = TURNED
        steps = 0
        while state == TURNED and steps < MOST_STEPS:
            if aimed and self.falls_short():
                return SHORT
            state = self.program.step()
            steps += 1
        return state

    def solve_program(self, aimed):
        self.read_answers()
        state = self.take_steps(aimed)
        rounds = 0
        while state == WHOLE and (self.add_broken() or (rounds < MOST_ROUNDS and self.add_cliques())):
            state = self.take_steps(aimed)
            rounds += 1
        return state

    def greatest(self):
        # More lines than this can't be kept.
        self.solve_program(False)
        return self.program.total // self.program.scale

    def aim_at(self, least):
        self.least = least
        self.aim = self.solver.ask(True)
        return self.aim

    def limit(self, row, amount):
        return Limit(self.solver, self.groups, self.program, row, amount)

    def falls_short(self):
        total = self.program.total
        least = self.least * self.program.scale
        if total < least or total > least + FAR * self.program.scale:
            return total < least
        return self.limit(self.program.prices, total).most < least

    def aim_reasons(self):
        return [self.aim ^ 1] if self.solver.level[self.aim >> 1] > 0 else []

    def count_goals(self):
        # A clause that fails if too many goals do; if just one more may not, then none of the others does.
        solver = self.solver
        lost = [goal for goal in self.goals if solver.value[goal] == FAILS]
        spare = len(self.goals) - len(lost) - self.least
        if spare > 0:
            return None
        reasons = self.aim_reasons() + [goal for goal in lost if solver.level[goal >> 1] > 0]
        if spare < 0:
            return reasons
        for goal in self.goals:
            if solver.value[goal] == UNSET:
                solver.put(goal, [goal] + reasons)
        return None

    def blame_prices(self):
        limit = self.limit(self.program.prices, self.program.total)
        return self.aim_reasons() + limit.reasons(self.least * self.program.scale - limit.most, None)

    def blame_row(self):
        # A sum, or else a share, that must come to more than it can; or to less, which is the same with other signs.
        program = self.program
        number = program.stuck[0]
        rises = program.stuck[1]
        if rises:
            limit = self.limit(program.rows[number], program.sums[number])
            goal = 0
        else:
            limit = self.limit([-entry for entry in program.rows[number]], -program.sums[number])
            goal = -program.scale
        if limit.most < goal:
            return limit.reasons(goal - limit.most, None)
        # Only what is answered for it asks for so much.
        literal = self.literals[program.heads[number]] ^ (1 if rises else 0)
        own = [literal] if self.solver.level[literal >> 1] > 0 else []
        return own + limit.reasons(goal + program.scale - limit.most, None)

    def rule_out(self):
        # Whatever adds so much less than the best for its name that the aim couldn't be reached doesn't hold.
        limit = self.limit(self.program.prices, self.program.total)
        spare = limit.most - self.least * self.program.scale
        for number, group in enumerate(self.groups):
            for share, option in zip(limit.shares[number], group):
                missing = limit.bests[number] - share - spare
                if missing > 0 and self.solver.value[option[1]] == UNSET:
                    reasons = self.aim_reasons() + limit.reasons(missing, number)
                    self.solver.put(option[1] ^ 1, [option[1] ^ 1] + reasons)

    def may_go_on(self):
        ends = self.solver.ends
        return self.program.turns <= FIRST_STEPS + ends * (STEPS_AN_END + ends // ENDS_TO_TRUST)

    def check(self):
        # A clause that fails if the aim can't be reached from here. Else what must hold for it is put.
        aimed = self.solver.value[self.aim] == HOLDS
        failed = self.count_goals() if aimed else None
        if failed is not None or self.solver.head < len(self.solver.trail) or not self.may_go_on():
            return failed
        state = self.solve_program(aimed)
        if state == SHORT:
            return self.blame_prices()
        if state == STUCK:
            return self.blame_row()
        if state == WHOLE and aimed:
            self.rule_out()
        return None


def keep_by_bound(choices, goals, earlier):
    # So many lines as can be kept at most are aimed at first, then one less, and so on.
    bound = Bound(choices, goals, earlier)
    solver = choices.solver
    solver.judge = bound
    least = bound.greatest()
    while not choices.seek([bound.aim_at(least)]):
        solver.require([bound.aim ^ 1])
        least -= 1
    solver.require([bound.aim])
