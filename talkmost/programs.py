"""Programs: values from 0 on that fit lines and cost as little as can be."""

from math import lcm

from talkmost.draws import replaced
from talkmost.ratio import ONE, ZERO, neg, ratio
from talkmost.tableau import Tableau

# So many steps in a row may gain nothing before the least index decides alone.
PATIENCE = 20
# What a cost counts beside a nudge.
FAR = 100000


def solve(costs, lines):
    """Return the answer to a program, which begins with "end", "nothing" or "falls"."""
    many = len(costs)
    rows, factors = whole_lines(lines)
    cost_row, scale = whole([*costs, ZERO])
    held = [False] * many + [kind == "equal" for _, kind, _ in lines]
    tableau = Tableau([*rows, helping(cost_row), cost_row], held)
    at = fit(tableau)
    if at is not None:
        return ("nothing", unfit_prices(tableau, at, factors))
    column = cheapen(tableau)
    values = tableau.in_column(-1, many)
    if column is not None:
        return ("falls", values, falling_ray(tableau, column, many))
    below = tableau.divisors[-1] * scale
    prices = line_prices(tableau.in_row(-1), factors, below)
    return ("end", ratio(tableau.rows[-1][-1], below), values, prices)


def whole_lines(lines):
    """Return the rows of the lines' variables, and what each line is multiplied by in its row.

    The variable of a line is the sum of its entries, each times its column's value, minus the right
    side, and for "most" the negative of this.
    """
    rows, factors = [], []
    for entries, kind, right in lines:
        row, factor = whole([*entries, neg(right)])
        sign = -1 if kind == "most" else 1
        rows.append([sign * number for number in row])
        factors.append(sign * factor)
    return (rows, factors)


def whole(numbers):
    """Return the integers that the fractions are if multiplied by a number, and this number."""
    factor = 1
    for _, q in numbers:
        factor = lcm(factor, q)
    return ([p * (factor // q) for p, q in numbers], factor)


def helping(cost_row):
    """Return costs above 0 that are close to those that are not below 0."""
    return [max(cost, 0) * FAR + nudge(at) for at, cost in enumerate(cost_row[:-1])] + [0]


def nudge(at):
    """Return a number above 0; those of several places hardly fall together in a sum or quotient."""
    # Where numbers are equal, steps gain nothing, and many such steps can follow each other.
    return 100 + at * 7919 % 1009


def fit(tableau):
    """Reach values that fit, and return None, or return a row that shows that no values fit."""
    at = hold(tableau)
    if at is not None:
        return at
    stalled = 0
    while True:
        at = unfit_row(tableau, stalled > PATIENCE)
        if at is None:
            return None
        column = raising_column(tableau, at, 1)
        if column is None:
            return at
        stalled = stalled + 1 if tableau.rows[-2][column] == 0 else 0
        tableau.pivot(at, column)


def hold(tableau):
    """Take the held variables from the basic ones; return a row that shows that this cannot be."""
    for at, variable in enumerate(list(tableau.basic)):
        if tableau.held[variable]:
            column = holding_column(tableau, at)
            if column is not None:
                tableau.pivot(at, column)
            elif tableau.rows[at][-1] != 0:
                return at
    return None


def holding_column(tableau, at):
    """Return the column by which a basic variable becomes 0, or None."""
    number = tableau.rows[at][-1]
    column = raising_column(tableau, at, 1) if number <= 0 else None
    if column is None and number >= 0:
        column = raising_column(tableau, at, -1)
    return column


def unfit_row(tableau, careful):
    """Return the row of a basic variable below 0, or None: of the lowest one, or with care the first."""
    unfit = [at for at in range(len(tableau.basic)) if tableau.rows[at][-1] < 0]
    if not unfit:
        return None
    if careful:
        return min(unfit, key=lambda at: tableau.basic[at])
    best = unfit[0]
    for at in unfit:
        number = tableau.rows[at][-1] * tableau.divisors[best]
        if number < tableau.rows[best][-1] * tableau.divisors[at]:
            best = at
    return best


def raising_column(tableau, at, sign):
    """Return the column that raises a basic variable at the least helping cost, or None.

    The sign is 1, or -1 if the variable has to be lowered.
    """
    best = None
    for column, variable in enumerate(tableau.others):
        if sign * tableau.rows[at][column] > 0 and not tableau.held[variable]:
            if best is None or dearer(tableau, at, best, column):
                best = column
    return best


def dearer(tableau, at, column, other):
    """Return whether one column costs more helping costs than another for the same change of a row."""
    row, helpers = tableau.rows[at], tableau.rows[-2]
    here = (helpers[column] * abs(row[other]), tableau.others[column])
    return here > (helpers[other] * abs(row[column]), tableau.others[other])


def cheapen(tableau):
    """Reach values that cost least, and return None, or return a column along which costs fall on."""
    tableau.nudge([nudge(at) for at in range(len(tableau.basic))])
    stalled = 0
    while True:
        column = cheaper_column(tableau, stalled > PATIENCE)
        if column is None:
            return None
        at = stopping_row(tableau, column)
        if at is None:
            return column
        stalled = stalled + 1 if tableau.rows[at][-2:] == [0, 0] else 0
        tableau.pivot(at, column)


def cheaper_column(tableau, careful):
    """Return the column that makes it cheaper, or None: the steepest one, or with care the first."""
    costs, others = tableau.rows[-1], tableau.others
    cheaper = [
        column for column, variable in enumerate(others)
        if costs[column] < 0 and not tableau.held[variable]
    ]
    if not cheaper:
        return None
    if careful:
        return min(cheaper, key=lambda column: others[column])
    return min(cheaper, key=lambda column: costs[column])


def stopping_row(tableau, column):
    """Return the row whose variable is the first to become 0 if that of a column grows, or None."""
    best = None
    for at, variable in enumerate(tableau.basic):
        fall = -tableau.rows[at][column]
        if fall > 0 and (best is None or sooner(tableau, at, best, column)):
            best = at
    return best


def sooner(tableau, at, other, column):
    """Return whether one row's variable becomes 0 before another one's if that of a column grows.

    Beside the last numbers count the nudges, as if they were as small as one likes.
    """
    fall, other_fall = -tableau.rows[at][column], -tableau.rows[other][column]
    nudged, number = tableau.rows[at][-2:]
    other_nudged, other_number = tableau.rows[other][-2:]
    here = (number * other_fall, nudged * other_fall, tableau.basic[at])
    return here < (other_number * fall, other_nudged * fall, tableau.basic[other])


def line_prices(numbers, factors, below):
    """Return the prices of lines, given the integers of all variables in a row, and their divisor."""
    own = numbers[len(numbers) - len(factors):]
    return [ratio(number * factor, below) for number, factor in zip(own, factors)]


def unfit_prices(tableau, at, factors):
    """Return the prices by which the lines add up to a row whose variable cannot fit."""
    divisor = tableau.divisors[at]
    sign = 1 if tableau.rows[at][-1] < 0 else -1
    numbers = [-sign * number for number in tableau.in_row(at)]
    return line_prices(replaced(numbers, tableau.basic[at], sign * divisor), factors, divisor)


def falling_ray(tableau, column, many):
    """Return by how much the values grow if the variable of a column grows by 1."""
    ray = tableau.in_column(column, many)
    variable = tableau.others[column]
    return replaced(ray, variable, ONE) if variable < many else ray
