"""The rule that a talk with plans comes to, and the direct talk of a rule."""

from talkmost.draws import rows, unit
from talkmost.got import act_chances
from talkmost.talks import Talk, own_places


def rule_of(game, talk, plans):
    """Return the rule that the talk with the plans comes to."""
    places = own_places(talk)
    return [
        [act_chances(talk, places, plans, s, kinds) for kinds in rows(game.kinds)]
        for s in range(game.states)
    ]


def direct(game, rule):
    """Return the direct talk of a rule, and the honest plans."""
    talk = Talk(len(game.kinds), [game.kinds], [game.acts], [rule])
    return (talk, [honest_plan(kinds, acts) for kinds, acts in zip(game.kinds, game.acts)])


def honest_plan(kinds, acts):
    """Return the plan by which each kind reports itself, and does the act that it is told."""
    reports = [[[unit(i, kinds)]] for i in range(kinds)]
    done = [[unit(told, acts) for _, told in rows([kinds, acts])] for _ in range(kinds)]
    return (reports, done)
