"""Terms: what holds the teller back, or helps it."""

from talkmost.draws import rows
from talkmost.lies import best_lie, lies
from talkmost.means import kind_total, kind_weight
from talkmost.ratio import ZERO, at_most, mul
from talkmost.rules import is_rule


class Terms:
    """Labels of states, what the teller sees, whom it trusts, what it may tell, and floors."""

    def __init__(self, cells, seen, trusted, told, floors):
        self.cells = list(cells)
        self.seen = seen
        self.trusted = list(trusted)
        self.told = [[list(acts) for acts in by_kinds] for by_kinds in told]
        self.floors = list(floors)


def free_terms(game):
    """Return the terms that hold nothing back."""
    told = [[list(range(acts)) for _ in range(kinds)] for kinds, acts in zip(game.kinds, game.acts)]
    return Terms(list(range(game.states)), False, [], told, [])


def cell_states(terms):
    """Return the list of the lists of states of all cells, in the order of their first states."""
    cells = {}
    for state, label in enumerate(terms.cells):
        cells.setdefault(label, []).append(state)
    return list(cells.values())


def lies_asked(game, terms):
    """Return the list of `(h, i, said)` of all lies that count."""
    return [(h, i, said) for h, i, said in lies(game) if counts(terms, h, i, said)]


def counts(terms, h, i, said):
    """Return whether the lies of a kind that says a kind count."""
    return h not in terms.trusted and (said == i or not terms.seen)


def may_tell(terms, kinds, acts):
    """Return whether each act of a row may be told to the kind of its hearer in a row of kinds."""
    return all([
        act in by_kinds[kind] for by_kinds, kind, act in zip(terms.told, kinds, acts)
    ])


def keeps_terms(game, terms, rule):
    """Return whether the nested lists are a rule of the game that keeps the terms."""
    if not is_rule(game, rule) or not is_alike(terms, rule) or not tells_allowed(game, terms, rule):
        return False
    return no_lie_gains(game, terms, rule) and meets_floors(game, terms, rule)


def is_alike(terms, rule):
    """Return whether the chances are alike in all states of a cell."""
    return all([rule[state] == rule[cell[0]] for cell in cell_states(terms) for state in cell])


def tells_allowed(game, terms, rule):
    """Return whether only acts are told, in worlds of whatever weight, that may be told there."""
    kind_rows = rows(game.kinds)
    act_rows = rows(game.acts)
    return all([
        chance == ZERO or may_tell(terms, kinds, acts)
        for by_kinds in rule for kinds, chances in zip(kind_rows, by_kinds)
        for acts, chance in zip(act_rows, chances)
    ])


def no_lie_gains(game, terms, rule):
    """Return whether no lie that counts gains."""
    return all([
        at_most(best_lie(game, rule, h, i, said)[1], kind_total(game, rule, h, i))
        for h, i, said in lies_asked(game, terms)
    ])


def meets_floors(game, terms, rule):
    """Return whether the total of each floor's kind is at least the value times its weight."""
    return all([
        at_most(mul(value, kind_weight(game, h, i)), kind_total(game, rule, h, i))
        for h, i, value in terms.floors
    ])
