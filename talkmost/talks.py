"""Talks: rounds of reports and tellings, and their histories."""

from talkmost.draws import nested_chances, place, rows, size

MOST_ROUNDS = 3
MOST_CHOICES = 3
MOST_HISTORIES = 256


class Talk:
    """The counts of reports and tellings by rounds, and the chances of what is told."""

    def __init__(self, hearers, reports, tellings, chances):
        self.hearers = hearers
        self.reports = [list(counts) for counts in reports]
        self.tellings = [list(counts) for counts in tellings]
        self.chances = [
            [[list(told) for told in by_known] for by_known in by_states] for by_states in chances
        ]


def rounds(talk):
    """Return the number of rounds."""
    return len(talk.reports)


def is_talk(game, talk):
    """Return whether it is a talk of the game."""
    if talk.hearers != len(game.kinds) or len(talk.chances) != rounds(talk):
        return False
    return are_counts(talk) and all([
        nested_chances(by_states, [game.states, size(known_bounds(talk, r)), size(talk.tellings[r])])
        for r, by_states in enumerate(talk.chances)
    ])


def are_counts(talk):
    """Return whether the counts of reports and tellings are within the bounds of talks."""
    if rounds(talk) > MOST_ROUNDS or len(talk.tellings) != rounds(talk):
        return False
    lists = talk.reports + talk.tellings
    if any([len(counts) != talk.hearers for counts in lists]):
        return False
    if not all([1 <= many <= MOST_CHOICES for counts in lists for many in counts]):
        return False
    return size(bounds_before(talk, rounds(talk))) <= MOST_HISTORIES


def bounds_before(talk, r):
    """Return the bounds of histories of the rounds before a round, or of all rounds."""
    bounds = []
    for q in range(r):
        bounds.extend(talk.reports[q] + talk.tellings[q])
    return bounds


def known_bounds(talk, r):
    """Return the bounds of what the teller knows when it tells in a round."""
    return bounds_before(talk, r) + talk.reports[r]


def own_bounds(talk, h, r):
    """Return the bounds of a hearer's own histories before a round, or of all rounds."""
    bounds = []
    for q in range(r):
        bounds.extend([talk.reports[q][h], talk.tellings[q][h]])
    return bounds


def histories(talk):
    """Return the list of all histories of all rounds, in order."""
    return rows(bounds_before(talk, rounds(talk)))


def own_place(talk, h, r, history):
    """Return the index of a hearer's own history before a round in a history."""
    # Each round is two lists with a number for each hearer, so that a hearer's own numbers stand
    # as far apart as there are hearers.
    own = history[h:2 * talk.hearers * r:talk.hearers]
    return place(own_bounds(talk, h, r), own)


def own_places(talk):
    """Return, by rounds and for the end, the indexes of all hearers' own histories by histories."""
    return [
        [places_in(talk, r, history) for history in rows(bounds_before(talk, r))]
        for r in range(rounds(talk) + 1)
    ]


def places_in(talk, r, history):
    """Return the indexes of all hearers' own histories before a round in a history."""
    return [own_place(talk, h, r, history) for h in range(talk.hearers)]
