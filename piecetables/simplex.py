"""Equations that numbers from 0 on are to meet, solved in integers."""


class Tableau:
    """Equations with integers, rewritten step by step (the simplex method).

    Each equation is a list with a factor for each column, and has an amount from 0 on, which
    the columns, each as often as it is taken, are to bring. What they do not bring of it is
    its lack. Columns are numbered from 0, the lacks of the equations behind them.

    At each time some of these numbers are held, one by each row, and the others are free: they
    are 0. A row has a factor for each free one, and its amount at the end: the held one is the
    amount less the free ones times their factors, all over the divisor. The goal is such a row
    for the sum of all numbers, each times its cost; at first for the sum of all lacks.
    """

    def __init__(self, equations, amounts):
        self.width = len(equations[0])
        self.divisor = 1
        self.free = list(range(self.width))
        self.held = [self.width + number for number in range(len(equations))]
        self.rows = [[*equation, amount] for equation, amount in zip(equations, amounts)]
        self.aim([0] * self.width, 1)

    def aim(self, costs, lack_cost):
        """Let the goal be the sum of the columns, each times its cost, and of the lacks, which all cost the same."""
        prices = costs + [lack_cost] * len(self.rows)
        goal = [-prices[number] * self.divisor for number in self.free] + [0]
        for held, row in zip(self.held, self.rows):
            goal = [amount + prices[held] * entry for amount, entry in zip(goal, row)]
        self.goal = goal
        self.lack_cost = lack_cost

    def settle(self):
        """Make the goal as small as it can be."""
        column = self.entering()
        while column is not None:
            self.exchange(self.leaving(column), column)
            column = self.entering()

    def entering(self):
        """Return the place of the first free column that makes the goal smaller, or None."""
        # Taking the first one, here and in leaving, is what makes sure that settle ends (Bland's rule).
        # A lack is never taken again once it is free.
        best = None
        for place in range(self.width):
            if self.goal[place] > 0 and self.free[place] < self.width:
                if best is None or self.free[place] < self.free[best]:
                    best = place
        return best

    def leaving(self, column):
        """Return the place of the row that is the first one to become 0 if the column grows."""
        # There is always one, as long as the goal is one that cannot fall without end.
        best = None
        for place in range(len(self.rows)):
            if self.rows[place][column] > 0:
                if best is None or self.is_before(place, best, column):
                    best = place
        return best

    def is_before(self, place, other, column):
        """Tell whether a row becomes 0 before another one if the column grows."""
        row = self.rows[place]
        rival = self.rows[other]
        excess = row[-1] * rival[column] - rival[-1] * row[column]
        return excess < 0 or (excess == 0 and self.held[place] < self.held[other])

    def exchange(self, place, column):
        """Let the row at a place hold the free one of a column, and free the one that it holds."""
        pivot = self.rows[place]
        for number in range(len(self.rows)):
            if number != place:
                self.rows[number] = rewritten(self.rows[number], pivot, column, self.divisor)
        self.goal = rewritten(self.goal, pivot, column, self.divisor)
        divisor = pivot[column]
        pivot[column] = self.divisor
        self.divisor = divisor
        held = self.held[place]
        self.held[place] = self.free[column]
        self.free[column] = held
        if divisor < 0:
            self.turn()

    def turn(self):
        """Change the sign of the divisor, and of all that it divides."""
        self.divisor = -self.divisor
        self.rows = [[-entry for entry in row] for row in self.rows]
        self.goal = [-entry for entry in self.goal]

    def free_lacks(self):
        """Free each lack, all of which are 0, that is held by a row with a factor for some column."""
        # Otherwise a lack could grow when another goal is aimed at; those that stay are 0 whatever is taken.
        for place in range(len(self.rows)):
            if self.held[place] >= self.width:
                column = self.first_factor(place)
                if column is not None:
                    self.exchange(place, column)

    def first_factor(self, place):
        """Return the place of the first free column that has a factor in a row, or None."""
        for column in range(self.width):
            if self.rows[place][column] != 0 and self.free[column] < self.width:
                return column
        return None

    def worth(self):
        """Return the amount of the goal, times the divisor."""
        return self.goal[-1]

    def solution(self):
        """Return how often each column is taken, times the divisor."""
        numbers = [0] * self.width
        for place in range(len(self.rows)):
            if self.held[place] < self.width:
                numbers[self.held[place]] = self.rows[place][-1]
        return numbers

    def weights(self):
        """Return a weight for each equation, times the divisor.

        If all is settled, then the factors of a column, each times the weight of its equation,
        bring at most its cost, and the amounts bring the amount of the goal.
        """
        weights = [self.divisor * self.lack_cost] * len(self.rows)
        for place in range(self.width):
            if self.free[place] >= self.width:
                number = self.free[place] - self.width
                weights[number] = weights[number] + self.goal[place]
        return weights


def rewritten(row, pivot, column, divisor):
    """Return a row in which the free one of a column is replaced by what the pivot says of it."""
    share = row[column]
    # Every division leaves no remainder, as each entry is a determinant of factors of the equations.
    entries = [(entry * pivot[column] - share * other) // divisor for entry, other in zip(row, pivot)]
    entries[column] = -share
    return entries
