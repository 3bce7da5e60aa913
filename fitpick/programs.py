"""Linear programs: the greatest sum that shares between 0 and 1 can have, where other sums of them are kept in bounds.

A quantity is a share or a sum of shares. Some quantities are set, each to one of its two bounds, and there is a column
for each. The others follow from these, and there is a row for each: how much of every column it is. The aim is a sum
as well, and its entries are the prices: what it gains for each column. Each step mends one quantity that is out of its
bounds: it is set to that bound from now on, and one that was set follows in its place. The columns change places with
rows in such a way that no price tempts away from where its column is set: so the total never is too small, and where
nothing is out of its bounds any more, it's the greatest there is.

All is reckoned in whole numbers: rows, prices and sums are as many times too large as the scale says. Entries are
determinants then, and so each division by the scale comes out even.
"""

# What a step comes to: nothing is out of its bounds; something is, and nothing can mend it; something was mended.
WHOLE = 0
STUCK = 1
TURNED = 2


def mix(row, factor, turned, size, scale):
    if factor != 0:
        return [(entry * size - factor * other) // scale for entry, other in zip(row, turned)]
    if size != scale:
        return [entry * size // scale for entry in row]
    return row


class Program:
    def __init__(self, gains):
        # By quantity: its bounds (None: it may be as great as it likes), and its column's number or -1 less its row's;
        # None for a sum that is left out for now.
        self.low = [0 for gain in gains]
        self.high = [1 for gain in gains]
        self.places = list(range(len(gains)))
        # By column: which quantity it is, where that is set, what it gains.
        self.columns = list(range(len(gains)))
        self.settings = [1 if gain > 0 else 0 for gain in gains]
        self.prices = list(gains)
        self.total = sum([gain for gain in gains if gain > 0])
        # By row: which quantity it is, how much of each column it is, what that comes to.
        self.heads = []
        self.rows = []
        self.sums = []
        self.scale = 1
        self.turns = 0
        # The row that could not be mended, and whether it should have risen.
        self.stuck = (0, False)

    def add_quantity(self, high):
        self.low.append(0)
        self.high.append(high)
        self.places.append(None)
        return len(self.places) - 1

    def reckon(self, terms, constant):
        # What a sum comes to; terms: quantities, each with how many times it counts.
        amount = constant * self.scale
        for quantity, times in terms:
            place = self.places[quantity]
            if place >= 0:
                amount += times * self.scale * self.settings[place]
            else:
                amount += times * self.sums[-1 - place]
        return amount

    def bring_in(self, quantity, terms, constant):
        row = [0 for column in self.columns]
        for other, times in terms:
            place = self.places[other]
            if place >= 0:
                row[place] += times * self.scale
            else:
                row = [entry + times * more for entry, more in zip(row, self.rows[-1 - place])]
        self.places[quantity] = -1 - len(self.rows)
        self.heads.append(quantity)
        self.rows.append(row)
        self.sums.append(self.reckon(terms, constant))

    def leave_out(self, shares):
        # Sums that follow are within their bounds by themselves: without them there is less to reckon.
        kept = []
        for number, quantity in enumerate(self.heads):
            if quantity < shares:
                self.places[quantity] = -1 - len(kept)
                kept.append(number)
            else:
                self.places[quantity] = None
        self.heads = [self.heads[number] for number in kept]
        self.rows = [self.rows[number] for number in kept]
        self.sums = [self.sums[number] for number in kept]

    def move(self, column, setting):
        change = setting - self.settings[column]
        if change != 0:
            self.settings[column] = setting
            self.sums = [amount + change * row[column] for amount, row in zip(self.sums, self.rows)]
            self.total += change * self.prices[column]

    def bound(self, quantity, low, high):
        self.low[quantity] = low
        self.high[quantity] = high
        column = self.places[quantity]
        if column is not None and column >= 0:
            price = self.prices[column]
            if price > 0 or (price == 0 and self.settings[column] > high):
                self.move(column, high)
            elif price < 0 or self.settings[column] < low:
                self.move(column, low)

    def find_broken(self):
        # Of the rows out of their bounds the one that is farthest out for its length: so there are few steps.
        chosen = None
        farthest = 0
        length = 1
        for number, quantity in enumerate(self.heads):
            amount = self.sums[number]
            short = self.low[quantity] * self.scale - amount
            if short <= 0 and self.high[quantity] is not None:
                short = amount - self.high[quantity] * self.scale
            if short > 0:
                own = self.scale * self.scale + sum([entry * entry for entry in self.rows[number]])
                if short * short * length > farthest * own:
                    chosen = number
                    farthest = short * short
                    length = own
        return chosen

    def can_move(self, column, rises):
        quantity = self.columns[column]
        if rises:
            return self.high[quantity] is None or self.settings[column] < self.high[quantity]
        return self.settings[column] > self.low[quantity]

    def find_partner(self, row, rises):
        # Of the columns that can mend a row the one whose price is the least for what it does there.
        chosen = None
        least = 0
        most = 1
        for column, entry in enumerate(row):
            if entry != 0 and self.can_move(column, (entry > 0) == rises):
                price = abs(self.prices[column])
                size = abs(entry)
                nearer = price * most - least * size
                if chosen is None or nearer < 0 or (nearer == 0 and size > most):
                    chosen = column
                    least = price
                    most = size
        return chosen

    def turn(self, number, column, goal):
        # The quantity of a row is set to the goal from now on, and that of a column follows in its place.
        scale = self.scale
        pivot = self.rows[number][column]
        sign = 1 if pivot > 0 else -1
        size = abs(pivot)
        change = sign * (goal * scale - self.sums[number])
        turned = [sign * entry for entry in self.rows[number]]
        for other in range(len(self.rows)):
            if other != number:
                factor = self.rows[other][column]
                self.rows[other] = mix(self.rows[other], factor, turned, size, scale)
                self.rows[other][column] = sign * factor
                self.sums[other] = (self.sums[other] * size + factor * change) // scale
        price = self.prices[column]
        self.prices = mix(self.prices, price, turned, size, scale)
        self.prices[column] = sign * price
        self.total = (self.total * size + price * change) // scale
        self.rows[number] = [-entry for entry in turned]
        self.rows[number][column] = sign * scale
        self.sums[number] = size * self.settings[column] + change
        self.scale = size
        self.trade(number, column, goal)

    def trade(self, number, column, goal):
        self.turns += 1
        self.settings[column] = goal
        leaving = self.heads[number]
        self.heads[number] = self.columns[column]
        self.columns[column] = leaving
        self.places[leaving] = column
        self.places[self.heads[number]] = -1 - number

    def step(self):
        number = self.find_broken()
        if number is None:
            return WHOLE
        quantity = self.heads[number]
        rises = self.sums[number] < self.low[quantity] * self.scale
        column = self.find_partner(self.rows[number], rises)
        if column is None:
            self.stuck = (number, rises)
            return STUCK
        self.turn(number, column, self.low[quantity] if rises else self.high[quantity])
        return TURNED
