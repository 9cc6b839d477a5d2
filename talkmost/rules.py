"""Rules: the chances of all rows of acts in each world."""

from talkmost.draws import nested_chances, size
from talkmost.ratio import ONE, add, mul, sub


def is_rule(game, rule):
    """Return whether the nested lists of fractions are a rule of the game."""
    return nested_chances(rule, [game.states, size(game.kinds), size(game.acts)])


def mixed(rule, other, part):
    """Return the mixture that has the part of the first rule, and the rest of the other one."""
    return [
        [mixed_chances(first, second, part) for first, second in zip(by_kinds, other_by_kinds)]
        for by_kinds, other_by_kinds in zip(rule, other)
    ]


def mixed_chances(first, second, part):
    """Return chances of which the part is that of the first ones."""
    rest = sub(ONE, part)
    return [add(mul(part, a), mul(rest, b)) for a, b in zip(first, second)]
