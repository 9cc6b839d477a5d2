"""Double lies: to say another kind, and to do other acts than those that one is told."""

from talkmost.draws import moved, rows
from talkmost.game import kind_worlds
from talkmost.means import kind_total
from talkmost.ratio import added, dot, first_greatest, less, mul, sub


def told_total(game, rule, h, i, said, told, act):
    """Return the part of a telling in what a lie gets that does the act there."""
    pays = game.pays[h + 1]
    draws = told_draws(game, h, told, act)
    parts = []
    for s, k in kind_worlds(game, h, i):
        drawn = rule[s][moved(game.kinds, k, h, said)]
        got = added([mul(drawn[a], pays[s][k][done]) for a, done in draws])
        parts.append(mul(game.weights[s][k], got))
    return added(parts)


def told_draws(game, h, told, act):
    """Return the rows of acts with what is told, each with what is done then, by their indexes."""
    return [
        (a, moved(game.acts, a, h, act)) for a, row in enumerate(rows(game.acts)) if row[h] == told
    ]


def told_parts(game, rule, h, i, said):
    """Return the parts of all tellings, by what is told and what is done."""
    acts = game.acts[h]
    return [
        [told_total(game, rule, h, i, said, told, act) for act in range(acts)] for told in range(acts)
    ]


def lie_total(game, rule, h, i, said, done):
    """Return what a lie gets."""
    return added([told_total(game, rule, h, i, said, told, act) for told, act in enumerate(done)])


def best_lie(game, rule, h, i, said):
    """Return the list of the best acts of a kind that says a kind, and what this lie gets."""
    parts = told_parts(game, rule, h, i, said)
    done = [first_greatest(by_acts) for by_acts in parts]
    return (done, added([by_acts[act] for by_acts, act in zip(parts, done)]))


def lies(game):
    """Return the list of all `(h, i, said)`: a hearer, a kind of it, and a kind that it can say."""
    return [
        (h, i, said) for h, many in enumerate(game.kinds) for i in range(many) for said in range(many)
    ]


def gaining_lie(game, rule):
    """Return the first lie that gains, `(h, i, said, done, gain)`, or None if no lie gains."""
    for h, i, said in lies(game):
        done, got = best_lie(game, rule, h, i, said)
        truth = kind_total(game, rule, h, i)
        if less(truth, got):
            return (h, i, said, done, sub(got, truth))
    return None


def honest(game, rule):
    """Return whether no lie gains."""
    return gaining_lie(game, rule) is None


def mixed_lie_total(game, rule, h, i, says, does):
    """Return what a lie by chances gets."""
    return dot(says, [mixed_total(game, rule, h, i, said, acts) for said, acts in enumerate(does)])


def mixed_total(game, rule, h, i, said, acts):
    """Return what is got by saying a kind, and doing acts by chances at each telling."""
    parts = told_parts(game, rule, h, i, said)
    return added([dot(chances, by_acts) for chances, by_acts in zip(acts, parts)])
