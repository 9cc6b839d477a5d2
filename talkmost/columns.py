"""Columns of terms: a cell, a row of kinds, and a row of acts that may be told there."""

from talkmost.draws import moved, rows, size
from talkmost.ratio import added, mul
from talkmost.terms import cell_states, may_tell


class Columns:
    """All columns `(c, k, a)` of a game under terms, in order, and what parties get at them.

    `worths[who][c][k][a]` is what a party gets in a cell with a row of kinds and a row of acts, also
    where this is no column: the sum over the cell's states of the weight times what it gets.
    """

    def __init__(self, game, terms):
        cells = cell_states(terms)
        self.game = game
        self.cells = len(cells)
        self.kinds = rows(game.kinds)
        self.acts = rows(game.acts)
        self.places = [
            (c, k, a) for c in range(len(cells)) for k, kinds in enumerate(self.kinds)
            for a, acts in enumerate(self.acts) if may_tell(terms, kinds, acts)
        ]
        self.worths = [party_values(game, cells, who) for who in range(len(game.pays))]

    def kind(self, h, column):
        """Return the kind of a hearer at a column."""
        return self.kinds[column[1]][h]

    def act(self, h, column):
        """Return the act of a hearer at a column."""
        return self.acts[column[2]][h]

    def value(self, who, column):
        """Return what a party gets at a column."""
        c, k, a = column
        return self.worths[who][c][k][a]

    def other_value(self, h, column, i, act):
        """Return what a hearer gets where its kind and its act are these, all else as at a column."""
        c, k, a = column
        other_k = moved(self.game.kinds, k, h, i)
        return self.worths[h + 1][c][other_k][moved(self.game.acts, a, h, act)]


def party_values(game, cells, who):
    """Return what a party gets by cells, rows of kinds and rows of acts."""
    acts = size(game.acts)
    return [
        [[cell_value(game, cell, who, k, a) for a in range(acts)] for k in range(size(game.kinds))]
        for cell in cells
    ]


def cell_value(game, cell, who, k, a):
    """Return the sum over the states of a cell of the weight times what a party gets."""
    return added([mul(game.weights[s][k], game.pays[who][s][k][a]) for s in cell])
