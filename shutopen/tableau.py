"""The tableau of a task: least costs of a mixture of columns with a given sum.

All numbers in it are whole: each stands for its quotient by the one common unit, which is positive. Behind a column
for each column of the task stands one for each goal, which at first makes up for what is missing; the last number
of a row is the amount of its base column. Aims are rows of costs, less what the base columns cost; their last
number is the negative of the sum of these costs, which is being lowered.
"""

from shutopen.exact import ONE, ZERO, cleared, fraction, times


class Tableau:
    """The rows, the base column of each row, and the aims: the first one is lowered, the others only go along."""

    def __init__(self, columns, goals, costs):
        self.many = len(columns)
        self.factors = []
        sides = []
        for at, goal in enumerate(goals):
            numbers, factor = cleared([column[at] for column in columns])
            if goal[0] < 0:
                numbers = [-number for number in numbers]
                factor = -factor
            self.factors.append(factor)
            sides.append(numbers + unit_numbers(at, len(goals)))
        # Goals have a factor of their own, so that long ones do not make all other numbers long.
        ends, self.goal_factor = cleared([times(goal, (factor, 1)) for goal, factor in zip(goals, self.factors)])
        self.rows = [side + [end] for side, end in zip(sides, ends)]
        self.base = [self.many + at for at in range(len(goals))]
        self.unit = 1
        numbers, self.cost_factor = cleared(costs)
        self.aims = [self.missing_aim(), numbers + [0] * (len(goals) + 1)]

    def missing_aim(self):
        """The aim of the sum of what is missing at the goals."""
        sums = [0] * (self.many + len(self.rows) + 1)
        for row in self.rows:
            sums = [total - number for total, number in zip(sums, row)]
        return sums[:self.many] + [0] * len(self.rows) + sums[-1:]

    def is_missing(self):
        """Whether something is missing at the goals, while the sum of it is the first aim."""
        return self.aims[0][-1] < 0

    def amount_aim(self, place):
        """The aim of the amount of one column."""
        if place not in self.base:
            aim = [0] * (self.many + len(self.rows) + 1)
            aim[place] = self.unit
            return aim
        aim = [-number for number in self.rows[self.base.index(place)]]
        aim[place] = 0
        return aim

    def exchange(self, at, place):
        """Makes the column at a place the base column of a row in which it has a number other than 0."""
        row = self.rows[at]
        if row[place] < 0:
            # Only rows with the amount 0 come here so; turned about they say the same.
            row = [-number for number in row]
        unit = self.unit
        self.rows = [row if k == at else cleaned(other, row, place, unit) for k, other in enumerate(self.rows)]
        self.aims = [cleaned(aim, row, place, unit) for aim in self.aims]
        self.unit = row[place]
        self.base[at] = place

    def leaving(self, place):
        """The row whose amount is the first to come to 0 while the column at a place gets more, None if none does.

        Of several the one with the least base column, which keeps the exchanges from going round in a circle.
        """
        best = None
        for at, row in enumerate(self.rows):
            if row[place] > 0 and (best is None or self.is_ahead(at, best, place)):
                best = at
        return best

    def is_ahead(self, at, best, place):
        mine = self.rows[at][-1] * self.rows[best][place]
        least = self.rows[best][-1] * self.rows[at][place]
        return mine < least or (mine == least and self.base[at] < self.base[best])

    def descend(self, places):
        """Lowers the first aim with columns at some places. Returns the place with which it falls without end, or
        None if it is at its least.
        """
        while True:
            place = first_below(self.aims[0], places)
            if place is None:
                return None
            at = self.leaving(place)
            if at is None:
                return place
            self.exchange(at, place)

    def settle_rows(self):
        """Makes columns of the task base columns of the rows, as far as they are no sums of multiples of others."""
        for at in range(len(self.rows)):
            if self.base[at] >= self.many:
                place = first_other(self.rows[at][:self.many])
                if place is not None:
                    self.exchange(at, place)

    def taken_amounts(self):
        parts = [ZERO] * self.many
        for place, row in zip(self.base, self.rows):
            if place < self.many:
                parts[place] = fraction(row[-1], self.unit * self.goal_factor)
        return tuple(parts)

    def fall(self, place):
        """The mixture by which the amounts change with each one more of the column at a place."""
        parts = [ZERO] * self.many
        parts[place] = ONE
        for other, row in zip(self.base, self.rows):
            if other < self.many:
                parts[other] = fraction(-row[place], self.unit)
        return tuple(parts)

    def prices_of(self, aim, cost, factor):
        """The prices of the goals under an aim in which what makes up for a goal has a cost."""
        found = []
        for at, own in enumerate(self.factors):
            found.append(fraction((cost * self.unit - aim[self.many + at]) * own, self.unit * factor))
        return tuple(found)


def unit_numbers(at, many):
    return [1 if k == at else 0 for k in range(many)]


def cleaned(row, other, place, unit):
    """A row behind an exchange, with 0 at the place. The division leaves no remainder, as all numbers of a tableau
    are determinants of numbers of the first one.
    """
    keep = other[place]
    drop = row[place]
    if drop == 0:
        return row if keep == unit else [number * keep // unit for number in row]
    return [(number * keep - more * drop) // unit for number, more in zip(row, other)]


def first_below(aim, places):
    for place in places:
        if aim[place] < 0:
            return place
    return None


def first_other(numbers):
    for place, number in enumerate(numbers):
        if number != 0:
            return place
    return None
