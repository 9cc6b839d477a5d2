"""Which terms are looser than others, and whom it is enough to trust."""

from itertools import combinations

from talkmost.moving import most
from talkmost.ratio import at_most
from talkmost.terms import Terms


def looser(terms, other):
    """Return whether the other terms are at least as loose as these."""
    return (
        cells_within(other.cells, terms.cells)
        and (other.seen or not terms.seen)
        and contains(other.trusted, terms.trusted)
        and tells_as_much(terms.told, other.told)
        and contains(terms.floors, other.floors)
    )


def cells_within(labels, others):
    """Return whether states of one cell are of one cell by the other labels, too."""
    firsts = {}
    for label, other in zip(labels, others):
        if firsts.setdefault(label, other) != other:
            return False
    return True


def contains(items, others):
    """Return whether all the others are among the items."""
    return all([other in items for other in others])


def tells_as_much(told, other_told):
    """Return whether each act that may be told to a kind may be told to it there, too."""
    return all([
        contains(other_acts, acts)
        for by_kinds, other_by_kinds in zip(told, other_told)
        for acts, other_acts in zip(by_kinds, other_by_kinds)
    ])


def least_trusted(game, terms, aims, value):
    """Return the list of the least sets of hearers that bring the aim to the value."""
    hearers = len(game.kinds)
    least = []
    for many in range(hearers + 1):
        for chosen in combinations(range(hearers), many):
            # More trust is looser, so that a set with a least set in it brings the aim there anyhow.
            if any([contains(chosen, found) for found in least]):
                continue
            if brings(game, trusting(terms, chosen), aims, value):
                least.append(list(chosen))
    return least


def trusting(terms, trusted):
    """Return the terms with just these hearers trusted."""
    return Terms(terms.cells, terms.seen, trusted, terms.told, terms.floors)


def brings(game, terms, aims, value):
    """Return whether some rule that keeps the terms brings the aim to at least the value."""
    found = most(game, terms, aims)
    return found[0] == "most" and at_most(value, found[1])
