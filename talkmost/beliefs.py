"""Pieces and splits of the weights, and planes above them, for one hearer with one kind."""

from talkmost.draws import unit
from talkmost.moving import most
from talkmost.programs import solve
from talkmost.ratio import (
    ONE, ZERO, added, at_most, cover, div, dot, first_greatest, greatest, is_fraction, mul, nested_numbers,
    scaled, sub,
)
from talkmost.talks import Talk
from talkmost.terms import free_terms


def piece_pays(game, piece, who):
    """Return what a party gets at a piece by the hearer's acts."""
    return [
        dot(piece, [game.pays[who][s][0][act] for s in range(game.states)]) for act in range(game.acts[0])
    ]


def best_acts(game, piece):
    """Return the list of the best acts at a piece."""
    pays = piece_pays(game, piece, 1)
    return [act for act, pay in enumerate(pays) if pay == greatest(pays)]


def piece_act(game, piece):
    """Return the act of a piece."""
    pays = piece_pays(game, piece, 0)
    best = best_acts(game, piece)
    return best[first_greatest([pays[act] for act in best])]


def piece_value(game, piece):
    """Return the value of a piece."""
    return piece_pays(game, piece, 0)[piece_act(game, piece)]


def state_weights(game):
    """Return the weights of the states."""
    return [by_kinds[0] for by_kinds in game.weights]


def is_split(game, pieces):
    """Return whether the pieces are numbers from 0 on that add up to the weights."""
    if not nested_numbers(pieces, [len(pieces), game.states]):
        return False
    if not all([at_most(ZERO, number) for piece in pieces for number in piece]):
        return False
    return state_weights(game) == [added([piece[s] for piece in pieces]) for s in range(game.states)]


def split_total(game, pieces):
    """Return the total of a split."""
    return added([piece_value(game, piece) for piece in pieces])


def best_split(game):
    """Return the greatest total of splits, a split that has it, and a plane that is accepted for it."""
    _, value, rule, paper = most(game, free_terms(game), [ONE, ZERO])
    pieces = [
        [mul(weight, rule[s][0][act]) for s, weight in enumerate(state_weights(game))]
        for act in range(game.acts[0])
    ]
    return (value, fewer(game, pieces), plane_above(game, paper[1][0][0][0]))


def fewer(game, pieces):
    """Return a split with the same total as a best one, with at most as many pieces as states."""
    # All multiples of a best split's pieces that add up to the weights have its total; in those
    # that a program finds at most as many are above 0 as it has lines.
    lines = [
        ([piece[s] for piece in pieces], "equal", weight) for s, weight in enumerate(state_weights(game))
    ]
    factors = solve([ZERO for _ in pieces], lines)[2]
    multiples = [scaled(factor, piece) for factor, piece in zip(factors, pieces)]
    return [piece for piece in multiples if any([number != ZERO for number in piece])]


def plane_above(game, bounds):
    """Return the lowest plane with these bounds."""
    return ([greatest(least_prices(game, bounds, s)) for s in range(game.states)], bounds)


def least_prices(game, bounds, s):
    """Return what the price of a state must at least be, by acts."""
    teller, hearer = game.pays[0][s][0], game.pays[1][s][0]
    return [
        added([teller[act], dot(bounds[act], [sub(hearer[act], pay) for pay in hearer])])
        for act in range(game.acts[0])
    ]


def judge_plane(game, plane, value):
    """Return whether the plane is accepted for the value."""
    acts = game.acts[0]
    if len(plane) != 2 or not is_fraction(value):
        return False
    prices, bounds = plane
    if not nested_numbers(prices, [game.states]) or not nested_numbers(bounds, [acts, acts]):
        return False
    if not all([at_most(ZERO, bound) for by_acts in bounds for bound in by_acts]):
        return False
    if not cover(prices, [least_prices(game, bounds, s) for s in range(game.states)]):
        return False
    return at_most(dot(prices, state_weights(game)), value)


def split_talk(game, pieces):
    """Return the talk of a split of 1 to 3 pieces, and its plans."""
    told = [[shares(weight, s, pieces)] for s, weight in enumerate(state_weights(game))]
    talk = Talk(1, [[1]], [[len(pieces)]], [told])
    acts = [unit(piece_act(game, piece), game.acts[0]) for piece in pieces]
    return (talk, [([[[[ONE]]]], [acts])])


def shares(weight, s, pieces):
    """Return the chances of the tellings in a state."""
    if weight == ZERO:
        return unit(0, len(pieces))
    return [div(piece[s], weight) for piece in pieces]
