"""Plans that mimic a lie, and what follows from them for honest rules."""

from talkmost.coming import rule_of
from talkmost.lies import gaining_lie
from talkmost.ratio import added


def mimic(game, plans, h, said, done):
    """Return the plan of one kind that reports as the kind that is said, and does what the lie does."""
    reports, acts = plans[h]
    return (reports[said], [mimicked(chances, done, game.acts[h]) for chances in acts[said]])


def mimicked(chances, done, many):
    """Return the chances of acts if for each act another one, or this one, is done."""
    return [
        added([chance for chance, other in zip(chances, done) if other == act]) for act in range(many)
    ]


def answer(game, talk, plans):
    """Return `(h, i, plan, gain)` of the first lie that gains, and its mimicking plan, or None."""
    gaining = gaining_lie(game, rule_of(game, talk, plans))
    if gaining is None:
        return None
    h, i, said, done, gain = gaining
    return (h, i, mimic(game, plans, h, said, done), gain)
