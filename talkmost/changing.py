"""Changes of talks that leave the rule that they come to as it is."""

from talkmost.draws import place, replaced, rows, size
from talkmost.ratio import ONE
from talkmost.talks import Talk, bounds_before, known_bounds, own_bounds, rounds


def with_silence(game, talk, r):
    """Return the talk with a silent round before a round, or behind the last one."""
    counts = [1] * talk.hearers
    silence = [[[ONE]] * size(bounds_before(talk, r))] * game.states
    return Talk(
        talk.hearers, inserted(talk.reports, r, counts), inserted(talk.tellings, r, counts),
        inserted(talk.chances, r, silence),
    )


def inserted(items, at, item):
    """Return the list with one more item before a place."""
    return items[:at] + [item] + items[at:]


def silent_plans(talk, plans, r):
    """Return the plans for the talk with a silent round."""
    return [silent_plan(talk, plan, h, r) for h, plan in enumerate(plans)]


def silent_plan(talk, plan, h, r):
    """Return a hearer's plan for the talk with a silent round."""
    reports, acts = plan
    many = size(own_bounds(talk, h, r))
    return ([inserted(by_rounds, r, [[ONE] for _ in range(many)]) for by_rounds in reports], acts)


def renamed(talk, h, r, order):
    """Return the talk with other numbers for the tellings of a hearer in a round."""
    told = [
        [reordered(talk.tellings[r], h, order, chances) for chances in by_known]
        for by_known in talk.chances[r]
    ]
    where = len(known_bounds(talk, r)) + h
    later = [
        [reordered(known_bounds(talk, q), where, order, by_known) for by_known in talk.chances[q]]
        for q in range(r + 1, rounds(talk))
    ]
    return Talk(talk.hearers, talk.reports, talk.tellings, talk.chances[:r] + [told] + later)


def reordered(bounds, where, order, items):
    """Return the items of all rows below bounds, where one number of the rows gets another number."""
    found = list(items)
    for row, item in zip(rows(bounds), items):
        found[place(bounds, replaced(row, where, order[row[where]]))] = item
    return found


def renamed_plans(talk, plans, h, r, order):
    """Return the plans for the talk with renamed tellings."""
    reports, acts = plans[h]
    moved_reports = [renamed_reports(talk, by_rounds, h, r, order) for by_rounds in reports]
    moved_acts = [renamed_own(talk, by_own, h, r, rounds(talk), order) for by_own in acts]
    return replaced(plans, h, (moved_reports, moved_acts))


def renamed_reports(talk, by_rounds, h, r, order):
    """Return the reports of one kind in the talk with renamed tellings."""
    later = [
        renamed_own(talk, by_rounds[q], h, r, q, order) for q in range(r + 1, rounds(talk))
    ]
    return by_rounds[:r + 1] + later


def renamed_own(talk, by_own, h, r, q, order):
    """Return the items of a hearer's own histories before round `q`, of renamed tellings in round `r`."""
    return reordered(own_bounds(talk, h, q), 2 * r + 1, order, by_own)


def pasted(talk, other):
    """Return the talk followed by another one."""
    many = size(bounds_before(talk, rounds(talk)))
    later = [[repeated(by_known, many) for by_known in by_states] for by_states in other.chances]
    return Talk(
        talk.hearers, talk.reports + other.reports, talk.tellings + other.tellings,
        talk.chances + later,
    )


def pasted_plans(talk, plans, other, other_plans):
    """Return the plans for the talk followed by another one."""
    return [
        pasted_plan(talk, plan, other, other_plan, h)
        for h, (plan, other_plan) in enumerate(zip(plans, other_plans))
    ]


def pasted_plan(talk, plan, other, other_plan, h):
    """Return a hearer's plan for the talk followed by another one."""
    before = size(own_bounds(talk, h, rounds(talk)))
    behind = size(own_bounds(other, h, rounds(other)))
    reports = [
        by_rounds + [repeated(by_own, before) for by_own in later]
        for by_rounds, later in zip(plan[0], other_plan[0])
    ]
    acts = [[list(chances) for chances in by_own for _ in range(behind)] for by_own in plan[1]]
    return (reports, acts)


def repeated(lists, many):
    """Return a list in which copies of the lists stand so many times."""
    return [list(inner) for _ in range(many) for inner in lists]
