"""Questions to be answered yes or no, clauses that bind the answers, and the search for answers that satisfy them all.

A literal is a whole number: twice a question's number says yes to it, one more says no. A clause is a list of literals
of which one at least must hold. The search learns a clause from each dead end: so it never runs into the same one
again, and goes back at once past all that had no part in it.
"""

UNSET = 0
HOLDS = 1
FAILS = 2

# Question 0 is always answered yes, so that this literal can stand where nothing is left to ask.
ALWAYS = 0

RESTART_UNIT = 64
MOST_IN_QUEUE = 4096
LEARNT_AT_FIRST = 500
LEARNT_MORE = 50


def luby(number):
    # Of the row 1 1 2 1 1 2 4 1 1 2 1 1 2 4 8 .. the one at this place, from 0 on.
    size = 1
    while size < number + 1:
        size = 2 * size + 1
    while size - 1 != number:
        size = (size - 1) // 2
        number = number % size
    return (size + 1) // 2


class TooLong(Exception):
    pass


class Solver:
    def __init__(self):
        # By literal: what is known of it, which others it forces at once, which longer clauses watch for its failing.
        self.value = []
        self.implied = []
        self.watching = []
        # By question: how deep and why it was answered, which literal to try first, its place in the queue.
        self.level = []
        self.reason = []
        self.liking = []
        self.stamp = []
        # The questions in the order in which they are tried, from the end on; a question's other places are stale.
        self.queue = []
        self.place = -1
        # The literals that hold, in the order in which they came, and where on this trail each try begins.
        self.trail = []
        self.head = 0
        self.starts = []
        # The clauses of three literals and more; the learnt ones behind the number of levels that they spread over.
        self.given = []
        self.learnt = []
        self.room = LEARNT_AT_FIRST
        self.hopeless = False
        self.model = []
        self.core = []
        # How many dead ends there have been, and after how many the search is given up, if it is.
        self.ends = 0
        self.patience = None
        # Who knows of more dead ends than the clauses tell, if anybody does.
        self.judge = None
        self.ask(True)
        self.require([ALWAYS])

    def ask(self, liking):
        number = len(self.level)
        yes = 2 * number
        self.value.extend([UNSET, UNSET])
        self.implied.extend([[], []])
        self.watching.extend([[], []])
        self.level.append(0)
        self.reason.append(None)
        self.liking.append(yes if liking else yes + 1)
        self.stamp.append(0)
        self.hurry(number)
        self.place = self.stamp[number]
        return yes

    def hurry(self, number):
        self.stamp[number] = len(self.queue)
        self.queue.append(number)

    def tidy_queue(self):
        fresh = []
        for place, number in enumerate(self.queue):
            if self.stamp[number] == place:
                self.stamp[number] = len(fresh)
                fresh.append(number)
        self.queue = fresh
        self.place = len(fresh) - 1

    def require(self, literals):
        # Only between two searches: what is known then is known for good and can be left out.
        clause = []
        for literal in literals:
            if self.value[literal] == HOLDS or (literal ^ 1) in clause:
                return
            if self.value[literal] == UNSET and literal not in clause:
                clause.append(literal)
        if len(clause) == 0:
            self.hopeless = True
        elif len(clause) == 1:
            self.put(clause[0], None)
            if self.propagate() is not None:
                self.hopeless = True
        else:
            self.attach(clause)
            if len(clause) > 2:
                self.given.append(clause)

    def attach(self, clause):
        if len(clause) == 2:
            self.implied[clause[0] ^ 1].append(clause[1])
            self.implied[clause[1] ^ 1].append(clause[0])
        else:
            self.watching[clause[0]].append(clause)
            self.watching[clause[1]].append(clause)

    def put(self, literal, reason):
        self.value[literal] = HOLDS
        self.value[literal ^ 1] = FAILS
        self.level[literal >> 1] = len(self.starts)
        self.reason[literal >> 1] = reason
        self.trail.append(literal)

    def propagate(self):
        while self.head < len(self.trail):
            literal = self.trail[self.head]
            self.head += 1
            for other in self.implied[literal]:
                if self.value[other] == UNSET:
                    self.put(other, [other, literal ^ 1])
                elif self.value[other] == FAILS:
                    return [other, literal ^ 1]
            failed = self.visit(literal ^ 1)
            if failed is not None:
                return failed
        return None

    def visit(self, gone):
        # Looks at the clauses that watch a literal which fails now: each watches another, or its last must hold.
        value = self.value
        watchers = self.watching[gone]
        kept = []
        self.watching[gone] = kept
        for place, clause in enumerate(watchers):
            if clause[0] == gone:
                clause[0] = clause[1]
                clause[1] = gone
            first = clause[0]
            if value[first] == HOLDS:
                kept.append(clause)
            elif not self.watch_another(clause):
                kept.append(clause)
                if value[first] == FAILS:
                    kept.extend(watchers[place + 1:])
                    return clause
                self.put(first, clause)
        return None

    def watch_another(self, clause):
        value = self.value
        for place in range(2, len(clause)):
            other = clause[place]
            if value[other] != FAILS:
                clause[place] = clause[1]
                clause[1] = other
                self.watching[other].append(clause)
                return True
        return False

    def back_to(self, depth):
        if len(self.starts) <= depth:
            return
        start = self.starts[depth]
        for literal in self.trail[start:]:
            number = literal >> 1
            self.value[literal] = UNSET
            self.value[literal ^ 1] = UNSET
            # What fitted before is likely to fit again.
            self.liking[number] = literal
            self.place = max(self.place, self.stamp[number])
        self.trail = self.trail[:start]
        self.starts = self.starts[:depth]
        self.head = start

    def explain(self, failed):
        # The clause to learn; first in it the one literal that all of the deepest level's part came through.
        depth = len(self.starts)
        seen = {}
        clause = []
        waiting = 0
        place = len(self.trail)
        reason = failed
        while True:
            for literal in reason:
                number = literal >> 1
                if number not in seen and self.level[number] > 0:
                    seen[number] = True
                    if self.level[number] == depth:
                        waiting += 1
                    else:
                        clause.append(literal)
            place -= 1
            while (self.trail[place] >> 1) not in seen:
                place -= 1
            waiting -= 1
            if waiting == 0:
                break
            reason = self.reason[self.trail[place] >> 1]
        # What took part in a dead end is tried early from now on, where the next one shows soonest.
        for number in sorted(seen, key=lambda question: self.stamp[question]):
            self.hurry(number)
        return [self.trail[place] ^ 1] + [literal for literal in clause if not self.follows(literal, seen)]

    def follows(self, literal, seen):
        # Whether the failing of a literal follows from that of others in the clause, so that it can be left out.
        if self.reason[literal >> 1] is None:
            return False
        passed = {literal >> 1: True}
        waiting = [literal >> 1]
        while len(waiting) > 0:
            for other in self.reason[waiting.pop()]:
                number = other >> 1
                if number not in seen and number not in passed and self.level[number] > 0:
                    if self.reason[number] is None:
                        return False
                    passed[number] = True
                    waiting.append(number)
        return True

    def learn(self, failed):
        clause = self.explain(failed)
        spread = len(set([self.level[literal >> 1] for literal in clause]))
        if len(clause) == 1:
            self.back_to(0)
            self.put(clause[0], None)
            return
        others = sorted(clause[1:], key=lambda literal: self.level[literal >> 1], reverse=True)
        self.back_to(self.level[others[0] >> 1])
        clause = clause[:1] + others
        self.attach(clause)
        if len(clause) > 2:
            self.learnt.append((spread, clause))
        self.put(clause[0], clause)

    def forget(self):
        # Drops half of what was learnt, the widest spread and of that the oldest first: each clause costs time.
        self.room += LEARNT_MORE
        ordered = sorted(reversed(self.learnt), key=lambda pair: pair[0])
        self.learnt = list(reversed(ordered[:len(ordered) // 2]))
        self.watching = [[] for literal in self.value]
        for clause in self.given:
            self.attach(clause)
        for pair in self.learnt:
            self.attach(pair[1])

    def blame(self, literal):
        # Those of the assumed literals that make this one, assumed too, fail; and this one.
        core = [literal]
        seen = {literal >> 1: True}
        for made in reversed(self.trail):
            number = made >> 1
            if number in seen and self.level[number] > 0:
                if self.reason[number] is None:
                    core.append(made)
                else:
                    for other in self.reason[number]:
                        seen[other >> 1] = True
        return core

    def start_over(self, depth):
        self.back_to(depth)
        if len(self.learnt) > self.room:
            self.forget()
        if len(self.queue) > MOST_IN_QUEUE + 2 * len(self.level):
            self.tidy_queue()

    def try_literal(self, literal):
        self.starts.append(len(self.trail))
        if self.value[literal] == UNSET:
            self.put(literal, None)

    def pick(self):
        while self.place >= 0:
            number = self.queue[self.place]
            if self.stamp[number] == self.place and self.value[2 * number] == UNSET:
                return self.liking[number]
            self.place -= 1
        return None

    def look_ahead(self):
        # All that follows from what holds so far; a clause that fails, if one does.
        failed = self.propagate()
        while failed is None and self.judge is not None:
            failed = self.judge.check()
            if failed is not None:
                self.back_to(max([0] + [self.level[literal >> 1] for literal in failed]))
            elif self.head == len(self.trail):
                return None
            else:
                failed = self.propagate()
        return failed

    def go_on(self, assumed):
        # The assumed come first, one level each, so that a failing one of them can be told from a failing try.
        if len(self.starts) < len(assumed):
            literal = assumed[len(self.starts)]
            if self.value[literal] == FAILS:
                self.core = self.blame(literal)
                return False
        else:
            literal = self.pick()
            if literal is None:
                self.model = [self.value[yes] == HOLDS for yes in range(0, len(self.value), 2)]
                return True
        self.try_literal(literal)
        return None

    def count_end(self):
        self.ends += 1
        if self.patience is not None and self.ends > self.patience:
            raise TooLong()

    def search(self, assumed):
        ends = 0
        runs = 0
        answer = None
        while answer is None:
            failed = self.look_ahead()
            if failed is None and ends < RESTART_UNIT * luby(runs):
                answer = self.go_on(assumed)
            elif failed is None:
                self.start_over(len(assumed))
                ends = 0
                runs += 1
            elif len(self.starts) > 0:
                self.learn(failed)
                ends += 1
                self.count_end()
            else:
                self.hopeless = True
                answer = False
        return answer

    def solve(self, assumed):
        # Whether all clauses and the assumed literals can hold together.
        # If so, the model tells of each question whether it's answered yes; else the core has some of the assumed that
        # can't hold together, none if even the clauses can't.
        self.core = []
        if self.hopeless:
            return False
        answer = self.search(assumed)
        self.back_to(0)
        return answer
