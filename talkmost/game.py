"""Games: the numbers of a case alone."""

from talkmost.draws import rows, size


class Game:
    """Counts, the weights by worlds, and what each party gets by worlds and rows of acts."""

    def __init__(self, states, kinds, acts, weights, pays):
        self.states = states
        self.kinds = list(kinds)
        self.acts = list(acts)
        self.weights = [list(by_kinds) for by_kinds in weights]
        self.pays = [
            [[list(by_acts) for by_acts in by_kinds] for by_kinds in by_states] for by_states in pays
        ]


def worlds(game):
    """Return the list of all worlds `(s, k)`, a state and the index of a row of kinds, in order."""
    return [(s, k) for s in range(game.states) for k in range(size(game.kinds))]


def kind_worlds(game, h, i):
    """Return the list of the worlds in which hearer `h` has kind `i`, in order."""
    having = [k for k, row in enumerate(rows(game.kinds)) if row[h] == i]
    return [(s, k) for s in range(game.states) for k in having]
