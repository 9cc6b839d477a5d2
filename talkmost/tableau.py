"""Tableaux: variables that are sums of a number and of multiples of other variables, in integers."""

from talkmost.ratio import ZERO, ratio


class Tableau:
    """The rows of basic variables, and behind them two rows of costs.

    The variable `basic[at]` is the last number of row `at`, plus the sum of the other variables,
    each times the number of its column there, all divided by `divisors[at]`. The two kinds of costs
    are such sums, too: those that help to find values that fit, and those of the program. All
    variables are at least 0; those that are held are 0.
    """

    def __init__(self, rows, held):
        self.rows = [list(row) for row in rows]
        self.held = list(held)
        lines = len(rows) - 2
        self.others = list(range(len(held) - lines))
        self.basic = list(range(len(self.others), len(held)))
        self.divisors = [1 for _ in rows]
        # With this divisor all numbers are minors of the first rows, and so integers. A row that a
        # pivot leaves as it is keeps its own divisor, so that rows with many zeros cost little.
        self.divisor = 1

    def pivot(self, at, column):
        """Let a basic variable and that of a column, whose number there is not 0, change places."""
        row = [number * self.divisor // self.divisors[at] for number in self.rows[at]]
        sign = 1 if row[column] > 0 else -1
        turned = [-sign * number for number in row]
        turned[column] = sign * self.divisor
        divisor = abs(row[column])
        for n, other in enumerate(list(self.rows)):
            if n != at and other[column] != 0:
                self.rows[n] = exchanged(other, self.divisors[n], turned, divisor, column)
                self.divisors[n] = divisor
        self.rows[at] = turned
        self.divisors[at] = divisor
        self.divisor = divisor
        self.basic[at], self.others[column] = self.others[column], self.basic[at]

    def nudge(self, numbers):
        """Put a column before the last one, in which the basic variables have these numbers."""
        added = [number * divisor for number, divisor in zip(numbers, self.divisors)] + [0, 0]
        self.rows = [[*row[:-1], number, row[-1]] for row, number in zip(self.rows, added)]

    def in_column(self, column, many):
        """Return the numbers of the first variables in a column, 0 of those that are not basic."""
        numbers = [ZERO] * many
        for at, variable in enumerate(self.basic):
            if variable < many:
                numbers[variable] = ratio(self.rows[at][column], self.divisors[at])
        return numbers

    def in_row(self, at):
        """Return the integers of all variables in a row, 0 of those that are basic."""
        numbers = [0] * len(self.held)
        for variable, number in zip(self.others, self.rows[at]):
            numbers[variable] = number
        return numbers


def exchanged(row, own, turned, divisor, column):
    """Return a row in which what the turned row says stands for the variable of a column."""
    factor = row[column]
    result = [(divisor * number + factor * put) // own for number, put in zip(row, turned)]
    result[column] = factor * turned[column] // own
    return result
