"""Rows below bounds, and chances of what is drawn."""

from talkmost.ratio import ONE, ZERO, added, at_most, dot, is_fraction, mul


def size(bounds):
    """Return how many rows there are below the bounds."""
    many = 1
    for bound in bounds:
        many *= bound
    return many


def place(bounds, row):
    """Return the index of a row."""
    at = 0
    for bound, number in zip(bounds, row):
        at = at * bound + number
    return at


def row_at(bounds, at):
    """Return the row with an index."""
    row = []
    for bound in reversed(bounds):
        row.append(at % bound)
        at //= bound
    row.reverse()
    return row


def rows(bounds):
    """Return the list of all rows, in order."""
    return [row_at(bounds, at) for at in range(size(bounds))]


def replaced(items, at, item):
    """Return the list with another item in one place."""
    return items[:at] + [item] + items[at + 1:]


def moved(bounds, at, where, number):
    """Return the index of the row that has another number in one place."""
    return place(bounds, replaced(row_at(bounds, at), where, number))


def unit(at, many):
    """Return the chances of so many things of which one is surely drawn."""
    return [ONE if n == at else ZERO for n in range(many)]


def are_chances(numbers):
    """Return whether the fractions are chances; an empty list is none."""
    sound = all([is_fraction(number) and at_most(ZERO, number) for number in numbers])
    return sound and added(numbers) == ONE


def nested_chances(nested, counts):
    """Return whether these are as many lists of lists as is told, the innermost ones chances."""
    if len(nested) != counts[0]:
        return False
    if len(counts) == 1:
        return are_chances(nested)
    return all([nested_chances(inner, counts[1:]) for inner in nested])


def together(lists):
    """Return the chances of all rows that independent draws make."""
    # No draws at all draw the one row [], so this begins with one sure chance.
    chances = [ONE]
    for drawn in lists:
        chances = [mul(before, chance) for before in chances for chance in drawn]
    return chances


def mean(chances, numbers):
    """Return the mean of numbers, one for each thing that can be drawn."""
    return dot(chances, numbers)
