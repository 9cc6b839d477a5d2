"""What parties get by plans in a talk."""

from talkmost.draws import mean, row_at
from talkmost.game import kind_worlds, worlds
from talkmost.plans import act_products, kind_plans
from talkmost.ratio import added, mul
from talkmost.talks import own_places


def got_total(game, talk, plans, who):
    """Return the total of a party by the plans."""
    return got_in_worlds(game, talk, plans, who, worlds(game))


def got_kind_total(game, talk, plans, h, i):
    """Return the total of kind `i` of hearer `h` by the plans."""
    return got_in_worlds(game, talk, plans, h + 1, kind_worlds(game, h, i))


def got_in_worlds(game, talk, plans, who, some):
    """Return the sum, over some worlds, of the weight times what a party gets there."""
    places = own_places(talk)
    parts = []
    for s, k in some:
        chances = act_chances(talk, places, plans, s, row_at(game.kinds, k))
        parts.append(mul(game.weights[s][k], mean(chances, game.pays[who][s][k])))
    return added(parts)


def act_chances(talk, places, plans, state, kinds):
    """Return the chances of all rows of acts in a world; `places` are the talk's own places."""
    lists = act_products(talk, places, state, kind_plans(plans, kinds))
    return [added(column) for column in zip(*lists)]
