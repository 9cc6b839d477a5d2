"""Cases: the weights of the worlds of a house, and who gets how much where."""

from talkmost.draws import place, rows, size
from talkmost.errors import NotAllowed, UnknownName
from talkmost.events import format_event, holds, parse_event
from talkmost.game import Game
from talkmost.houses import act_counts, hearer_names, kind_counts, kind_lists
from talkmost.ratio import ONE, ZERO, added, less

MOST_GAINS = 24


class Case:
    """A house with a weight for each world, and gains."""

    def __init__(self, house):
        self.house = house
        self._weights = [[ONE] * size(kind_counts(house)) for state in house.states]
        # A gain is kept as (party, amount, conditions).
        self._gains = []

    def weigh(self, state, kinds, weight):
        """Give a world another weight."""
        s = index_of(self.house.states, state)
        known = kind_lists(self.house)
        if len(kinds) != len(known):
            raise NotAllowed("a world has one kind for each hearer")
        row = [index_of(names, kind) for names, kind in zip(known, kinds)]
        if less(weight, ZERO):
            raise NotAllowed("a weight is at least 0")
        self._weights[s][place(kind_counts(self.house), row)] = weight

    def weights(self):
        """Return the list of tuples `(state, kinds, weight)`, in the order of worlds."""
        kind_rows = rows(kind_counts(self.house))
        return [
            (state, kind_names(self.house, row), weight)
            for state, by_kinds in zip(self.house.states, self._weights)
            for row, weight in zip(kind_rows, by_kinds)
        ]

    def gain(self, who, amount, event):
        """Add a gain behind the others."""
        party = index_of(party_names(self.house), who)
        conditions = parse_event(self.house, event)
        if len(self._gains) >= MOST_GAINS:
            raise NotAllowed(f"a case has at most {MOST_GAINS} gains")
        self._gains.append((party, amount, conditions))

    def strike(self, index):
        """Remove a gain."""
        if not 0 <= index < len(self._gains):
            raise NotAllowed("there is no gain of this index")
        del self._gains[index]

    def gains(self):
        """Return the list of tuples `(who, amount, event)`."""
        names = party_names(self.house)
        return [
            (names[party], amount, format_event(self.house, conditions))
            for party, amount, conditions in self._gains
        ]

    def game(self):
        """Return the game of the case."""
        house = self.house
        pays = [party_pays(house, self._gains, party) for party in range(len(party_names(house)))]
        return Game(len(house.states), kind_counts(house), act_counts(house), self._weights, pays)


def index_of(names, name):
    """Return the index of a name in a list, and refuse one that is not there."""
    if name not in names:
        raise UnknownName(f"nothing here is called {name}")
    return names.index(name)


def party_names(house):
    """Return the names of the parties: the teller, then the hearers."""
    return ["teller", *hearer_names(house)]


def kind_names(house, row):
    """Return the names of a row of kinds."""
    return [names[i] for names, i in zip(kind_lists(house), row)]


def party_pays(house, gains, party):
    """Return what a party gets by states, rows of kinds and rows of acts."""
    own = [(amount, conditions) for who, amount, conditions in gains if who == party]
    kind_rows = rows(kind_counts(house))
    act_rows = rows(act_counts(house))
    return [
        [[amount_at(own, s, kinds, acts) for acts in act_rows] for kinds in kind_rows]
        for s in range(len(house.states))
    ]


def amount_at(gains, state, kinds, acts):
    """Return the sum of the amounts whose events hold there."""
    return added([amount for amount, event in gains if holds(event, state, kinds, acts)])
