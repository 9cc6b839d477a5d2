"""Plans: what hearers report and do in a talk, and how likely its histories are then."""

from talkmost.draws import nested_chances, place, replaced, size, together
from talkmost.ratio import ONE, mul, multiplied, scaled
from talkmost.talks import known_bounds, own_bounds, own_place, rounds


def are_plans(game, talk, plans):
    """Return whether the list has a plan for each hearer."""
    if len(plans) != len(game.kinds):
        return False
    return all([is_plan(game, talk, h, plan) for h, plan in enumerate(plans)])


def is_plan(game, talk, h, plan):
    """Return whether the tuple is a plan of a hearer."""
    kinds = game.kinds[h]
    if len(plan) != 2 or len(plan[0]) != kinds:
        return False
    ends = size(own_bounds(talk, h, rounds(talk)))
    if not nested_chances(plan[1], [kinds, ends, game.acts[h]]):
        return False
    return all([are_reports(talk, h, by_rounds) for by_rounds in plan[0]])


def are_reports(talk, h, by_rounds):
    """Return whether these are the chances of a hearer's reports as one kind."""
    if len(by_rounds) != rounds(talk):
        return False
    return all([
        nested_chances(by_own, [size(own_bounds(talk, h, r)), talk.reports[r][h]])
        for r, by_own in enumerate(by_rounds)
    ])


def telling_chance(talk, state, history):
    """Return the product of the chances of all tellings of a history."""
    return multiplied([round_chance(talk, r, state, history) for r in range(rounds(talk))])


def round_chance(talk, r, state, history):
    """Return the chance of what a history tells in a round."""
    bounds = known_bounds(talk, r)
    known, rest = history[:len(bounds)], history[len(bounds):]
    told = place(talk.tellings[r], rest[:talk.hearers])
    return talk.chances[r][state][place(bounds, known)][told]


def history_chance(talk, plans, state, kinds, history):
    """Return the chance of a history in the world of a state and a row of kinds."""
    reported = [
        report_chance(talk, h, r, reports[kinds[h]], history)
        for h, (reports, _) in enumerate(plans) for r in range(rounds(talk))
    ]
    return mul(telling_chance(talk, state, history), multiplied(reported))


def report_chance(talk, h, r, by_rounds, history):
    """Return the chance of what a hearer reports in a round of a history."""
    report = history[2 * talk.hearers * r + h]
    return by_rounds[r][own_place(talk, h, r, history)][report]


def kind_plans(plans, kinds):
    """Return the plan of each hearer's kind in a row of kinds."""
    return [(reports[i], acts[i]) for (reports, acts), i in zip(plans, kinds)]


def history_products(talk, places, state, played):
    """Return the products of the tellings' chances and the reports' numbers, for all histories.

    `played` has a plan of one kind for each hearer, of numbers that need not be chances; `places`
    are the own places of the talk.
    """
    # Round after round, so that histories with the same rounds before share these rounds' product.
    products = [ONE]
    for r, by_states in enumerate(talk.chances):
        known = []
        for before, own in zip(products, places[r]):
            reported = together([reports[r][n] for (reports, _), n in zip(played, own)])
            known.extend(scaled(before, reported))
        products = [
            mul(number, chance) for number, told in zip(known, by_states[state]) for chance in told
        ]
    return products


def act_products(talk, places, state, played):
    """Return, for all histories, the same products times the acts' numbers, by rows of acts."""
    products = history_products(talk, places, state, played)
    return [
        scaled(number, together([acts[n] for (_, acts), n in zip(played, own)]))
        for number, own in zip(products, places[-1])
    ]


def with_plan(plans, h, i, plan):
    """Return the plans with another plan of kind `i` of hearer `h`."""
    reports, acts = plans[h]
    return replaced(plans, h, (replaced(reports, i, plan[0]), replaced(acts, i, plan[1])))
