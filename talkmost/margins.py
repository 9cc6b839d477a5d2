"""How wrong the weights may be until some lie gains."""

from talkmost.draws import mean, moved, rows
from talkmost.game import Game, kind_worlds
from talkmost.lies import honest, lies
from talkmost.ratio import ONE, ZERO, add, added, div, dot, less, mul, neg, sub


def losses(game, rule, lie):
    """Return the list of `(s, k, loss)` of all worlds with the kind of a lie."""
    h, i, said, done = lie
    places = told_places(game, h, done)
    found = []
    for s, k in kind_worlds(game, h, i):
        pays = game.pays[h + 1][s][k]
        lied = mean(rule[s][moved(game.kinds, k, h, said)], [pays[place] for place in places])
        found.append((s, k, sub(mean(rule[s][k], pays), lied)))
    return found


def told_places(game, h, done):
    """Return the index of the row of acts that is done for each row of acts that is told."""
    return [moved(game.acts, a, h, done[row[h]]) for a, row in enumerate(rows(game.acts))]


def margin(game, rule):
    """Return the margin, and a lie that gains above it if it is less than 1, or None if a lie gains."""
    if not honest(game, rule):
        return None
    part, worst = ONE, None
    for lie in whole_lies(game):
        stood = stood_part(game, rule, lie)
        if less(stood, part):
            part, worst = stood, lie
    return (part, worst)


def whole_lies(game):
    """Return the list of all lies `(h, i, said, done)`."""
    return [
        (h, i, said, done)
        for h, i, said in lies(game) for done in rows([game.acts[h]] * game.acts[h])
    ]


def stood_part(game, rule, lie):
    """Return the greatest part, at most 1, by which the weights may be wrong until the lie gains."""
    found = losses(game, rule, lie)
    weights = [game.weights[s][k] for s, k, _ in found]
    sizes = dot(weights, [neg(loss) if less(loss, ZERO) else loss for _, _, loss in found])
    if sizes == ZERO:
        return ONE
    return div(dot(weights, [loss for _, _, loss in found]), sizes)


def wrong_weights(game, rule, lie, part):
    """Return the weights, wrong by at most the part, at which the lie loses least."""
    weights = [list(by_kinds) for by_kinds in game.weights]
    for s, k, loss in losses(game, rule, lie):
        if loss != ZERO:
            factor = add(ONE, part) if less(loss, ZERO) else sub(ONE, part)
            weights[s][k] = mul(weights[s][k], factor)
    return weights


def reweighed(game, weights):
    """Return the game with other weights."""
    return Game(game.states, game.kinds, game.acts, weights, game.pays)
