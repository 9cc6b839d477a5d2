"""Papers: prices that show to how much at most rules that keep terms bring an aim, or that none does."""

from talkmost.columns import Columns
from talkmost.draws import size
from talkmost.lies import lies
from talkmost.means import kind_weight
from talkmost.ratio import ZERO, added, at_most, dot, is_fraction, less, mul, neg, nested_numbers, sub
from talkmost.terms import cell_states, counts


def judge_most(game, terms, aims, value, paper):
    """Return whether the paper is accepted for the value."""
    if not nested_numbers(aims, [len(game.pays)]) or not is_fraction(value):
        return False
    return shows(game, terms, aims, paper) and at_most(given(game, terms, paper), value)


def judge_nothing(game, terms, paper):
    """Return whether the paper shows that no rule keeps the terms."""
    zeros = [ZERO] * len(game.pays)
    return shows(game, terms, zeros, paper) and less(given(game, terms, paper), ZERO)


def shows(game, terms, aims, paper):
    """Return whether the prices are allowed, and hold for an aim."""
    if not is_paper(game, terms, paper) or not is_allowed(game, terms, paper):
        return False
    return holds_for(game, terms, aims, paper)


def is_paper(game, terms, paper):
    """Return whether all prices stand in nested lists as they must."""
    if len(paper) != 3 or len(paper[1]) != len(game.kinds):
        return False
    worlds, by_hearers, floors = paper
    if not nested_numbers(worlds, [len(cell_states(terms)), size(game.kinds)]):
        return False
    return nested_numbers(floors, [len(terms.floors)]) and all([
        nested_numbers(prices, [kinds, kinds, acts, acts])
        for prices, kinds, acts in zip(by_hearers, game.kinds, game.acts)
    ])


def is_allowed(game, terms, paper):
    """Return whether the prices are allowed."""
    _, by_hearers, floors = paper
    if not all([at_most(ZERO, price) for price in floors]):
        return False
    return all([
        lie_is_allowed(terms, h, i, said, by_hearers[h][i][said]) for h, i, said in lies(game)
    ])


def lie_is_allowed(terms, h, i, said, by_told):
    """Return whether the prices of the lies of a kind that says a kind are allowed."""
    asked = terms.told[h][said] if counts(terms, h, i, said) else []
    others = [prices for told, prices in enumerate(by_told) if told not in asked]
    if any([price != ZERO for prices in others for price in prices]):
        return False
    if not all([at_most(ZERO, price) for told in asked for price in by_told[told]]):
        return False
    return all([added(by_told[told]) == added(by_told[asked[0]]) for told in asked])


def holds_for(game, terms, aims, paper):
    """Return whether the paper, whose prices are allowed, holds for an aim."""
    columns = Columns(game, terms)
    prices = [
        [kind_price(terms, h, i, by_said) for i, by_said in enumerate(by_kinds)]
        for h, by_kinds in enumerate(paper[1])
    ]
    return all([
        at_most(column_sum(columns, terms, aims, paper, prices, (c, k, a)), paper[0][c][k])
        for c, k, a in columns.places
    ])


def kind_price(terms, h, i, by_said):
    """Return the sum of the prices of the lies of a kind, for all kinds that it can say."""
    return added([added(by_told[terms.told[h][said][0]]) for said, by_told in enumerate(by_said)])


def column_sum(columns, terms, aims, paper, prices, column):
    """Return what adds up at a column; `prices` are those of all lies of a kind, by hearers and kinds."""
    parts = [mul(aim, columns.value(who, column)) for who, aim in enumerate(aims)]
    for h, by_kinds in enumerate(paper[1]):
        kind, told = columns.kind(h, column), columns.act(h, column)
        parts.append(mul(prices[h][kind], columns.value(h + 1, column)))
        for i, by_said in enumerate(by_kinds):
            for act, price in enumerate(by_said[kind][told]):
                parts.append(neg(mul(price, columns.other_value(h, column, i, act))))
    for price, (h, i, _) in zip(paper[2], terms.floors):
        if columns.kind(h, column) == i:
            parts.append(mul(price, columns.value(h + 1, column)))
    return added(parts)


def given(game, terms, paper):
    """Return what the paper gives."""
    worlds, _, floors = paper
    asked = [mul(value, kind_weight(game, h, i)) for h, i, value in terms.floors]
    return sub(added([added(by_kinds) for by_kinds in worlds]), dot(floors, asked))
