"""Totals, weights and means of parties and kinds under a rule."""

from talkmost.draws import mean
from talkmost.game import kind_worlds, worlds
from talkmost.ratio import ZERO, added, div, mul


def total(game, rule, who):
    """Return the total of a party."""
    return worlds_total(game, rule, who, worlds(game))


def kind_total(game, rule, h, i):
    """Return the total of kind `i` of hearer `h`."""
    return worlds_total(game, rule, h + 1, kind_worlds(game, h, i))


def worlds_total(game, rule, who, places):
    """Return the sum, over some worlds, of the weight times the mean of what a party gets there."""
    pays = game.pays[who]
    return added([mul(game.weights[s][k], mean(rule[s][k], pays[s][k])) for s, k in places])


def kind_weight(game, h, i):
    """Return the weight of kind `i` of hearer `h`."""
    return worlds_weight(game, kind_worlds(game, h, i))


def worlds_weight(game, places):
    """Return the sum of the weights of some worlds."""
    return added([game.weights[s][k] for s, k in places])


def means(game, rule):
    """Return the teller's mean, and those of the kinds by hearers; None where there is none."""
    teller = quotient(total(game, rule, 0), worlds_weight(game, worlds(game)))
    return (teller, [hearer_means(game, rule, h) for h in range(len(game.kinds))])


def hearer_means(game, rule, h):
    """Return the list of the means of a hearer's kinds."""
    return [
        quotient(kind_total(game, rule, h, i), kind_weight(game, h, i)) for i in range(game.kinds[h])
    ]


def quotient(dividend, divisor):
    """Return the dividend by the divisor, None where the divisor is 0."""
    return None if divisor == ZERO else div(dividend, divisor)
