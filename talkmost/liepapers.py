"""Lie papers: numbers that show that no lie gains."""

from talkmost.lies import honest, lies, told_parts
from talkmost.means import kind_total
from talkmost.ratio import added, at_most, cover, greatest, nested_numbers
from talkmost.rules import is_rule


def lie_paper(game, rule):
    """Return a lie paper that is accepted, or None if the rule is not honest."""
    if not honest(game, rule):
        return None
    return [
        [[best_parts(game, rule, h, i, said) for said in range(many)] for i in range(many)]
        for h, many in enumerate(game.kinds)
    ]


def best_parts(game, rule, h, i, said):
    """Return the greatest part of each telling."""
    return [greatest(by_acts) for by_acts in told_parts(game, rule, h, i, said)]


def judge_lies(game, rule, paper):
    """Return whether the paper is accepted."""
    if not is_rule(game, rule) or not is_lie_paper(game, paper):
        return False
    return all([
        shows_no_gain(game, rule, h, i, said, paper[h][i][said]) for h, i, said in lies(game)
    ])


def is_lie_paper(game, paper):
    """Return whether there is a number for each hearer, kind, kind that is said, and telling."""
    if len(paper) != len(game.kinds):
        return False
    return all([
        nested_numbers(by_kinds, [kinds, kinds, acts])
        for by_kinds, kinds, acts in zip(paper, game.kinds, game.acts)
    ])


def shows_no_gain(game, rule, h, i, said, numbers):
    """Return whether the numbers are at least all parts, and add up to at most the kind's total."""
    if not cover(numbers, told_parts(game, rule, h, i, said)):
        return False
    return at_most(added(numbers), kind_total(game, rule, h, i))
