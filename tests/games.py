"""Games and rules for the tests, and the sums of the document told once more by Python's fractions."""

import random
from fractions import Fraction
from itertools import product

from talkmost.game import Game


def pair(number):
    return (number.numerator, number.denominator)


def count(bounds):
    many = 1
    for bound in bounds:
        many *= bound
    return many


def random_number(source, low, high):
    return pair(Fraction(source.randint(low, high), source.randint(1, 4)))


def random_chances(source, many):
    parts = [source.randint(0, 3) for _ in range(many)]
    parts[source.randrange(many)] += 1
    return [pair(Fraction(part, sum(parts))) for part in parts]


def random_game(source):
    hearers = source.randint(1, 3)
    kinds = [source.randint(1, 3 if hearers < 3 else 2) for _ in range(hearers)]
    acts = [source.randint(1, 3 if hearers < 3 else 2) for _ in range(hearers)]
    states = source.randint(1, 4)
    weights = [[random_number(source, 0, 3) for _ in range(count(kinds))] for _ in range(states)]
    pays = [
        [[[random_number(source, -4, 4) for _ in range(count(acts))] for _ in range(count(kinds))]
         for _ in range(states)]
        for _ in range(hearers + 1)
    ]
    return Game(states, kinds, acts, weights, pays)


def random_rule(source, game):
    return [
        [random_chances(source, count(game.acts)) for _ in range(count(game.kinds))]
        for _ in range(game.states)
    ]


def plain_sums(game, rule, who, h=None, i=None):
    """The total of a party and the weight, in all worlds or in those with kind i of hearer h."""
    total = weight = Fraction(0)
    for s in range(game.states):
        for k, row in enumerate(product(*[range(many) for many in game.kinds])):
            if h is None or row[h] == i:
                here = Fraction(*game.weights[s][k])
                weight += here
                for chance, pay in zip(rule[s][k], game.pays[who][s][k]):
                    total += here * Fraction(*chance) * Fraction(*pay)
    return total, weight


def source(seed):
    return random.Random(seed)


def small_game(source, most=48):
    """A random game with at most so many cases."""
    while True:
        game = random_game(source)
        if game.states * count(game.kinds) * count(game.acts) <= most:
            return game


def random_aims(source, game):
    return [random_number(source, -2, 2) for _ in game.pays]


def is_lowest(item):
    """Whether each pair of integers within lists and tuples is a fraction in lowest terms."""
    if isinstance(item, tuple) and len(item) == 2 and all(isinstance(part, int) for part in item):
        return item[1] >= 1 and pair(Fraction(*item)) == item
    if isinstance(item, (list, tuple)):
        return all(is_lowest(part) for part in item)
    return True
