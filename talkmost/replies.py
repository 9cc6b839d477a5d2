"""Best replies: the most that a kind gets by any plan while all other plans stay as they are."""

from talkmost.draws import replaced, row_at, rows, size, unit
from talkmost.game import kind_worlds
from talkmost.got import got_kind_total
from talkmost.plans import act_products, are_plans, kind_plans
from talkmost.ratio import ONE, ZERO, add, added, first_greatest, greatest, less, mul, scaled, sub
from talkmost.talks import own_bounds, own_places, rounds


def end_values(game, talk, plans, h, i):
    """Return, by own histories of all rounds, the list of the values of all acts."""
    places = own_places(talk)
    act_rows = rows(game.acts)
    sure = sure_plan(game, talk, h)
    values = [[ZERO] * game.acts[h] for _ in sure[1]]
    for s, k in kind_worlds(game, h, i):
        played = replaced(kind_plans(plans, row_at(game.kinds, k)), h, sure)
        pays = scaled(game.weights[s][k], game.pays[h + 1][s][k])
        for own, numbers in zip(places[-1], act_products(talk, places, s, played)):
            by_acts = values[own[h]]
            for row, number, pay in zip(act_rows, numbers, pays):
                by_acts[row[h]] = add(by_acts[row[h]], mul(number, pay))
    return values


def sure_plan(game, talk, h):
    """Return a plan of one kind with 1 everywhere, so that it leaves products as they are."""
    reports = [
        [[ONE] * talk.reports[r][h]] * size(own_bounds(talk, h, r)) for r in range(rounds(talk))
    ]
    return (reports, [[ONE] * game.acts[h]] * size(own_bounds(talk, h, rounds(talk))))


def choice_numbers(game, talk, plans, h, i):
    """Return what each report, by rounds and own histories, and each act at the end, comes to.

    Before each round that is the sum of the best numbers at the own histories to which the report
    leads, and at the end the value of the act.
    """
    levels = [end_values(game, talk, plans, h, i)]
    for r in reversed(range(rounds(talk))):
        later = [greatest(numbers) for numbers in levels[-1]]
        levels.append(report_sums(talk, h, r, later))
    levels.reverse()
    return levels


def report_sums(talk, h, r, later):
    """Return, by own histories before a round and reports, the sums of the later numbers."""
    sums = [added(part) for part in parted(later, talk.tellings[r][h])]
    return parted(sums, talk.reports[r][h])


def parted(items, many):
    """Return the list of the parts, of so many items each, of a list."""
    return [items[at:at + many] for at in range(0, len(items), many)]


def reply(game, talk, plans, h, i):
    """Return the best total of a kind, and its reply."""
    levels = choice_numbers(game, talk, plans, h, i)
    chosen = [
        [unit(first_greatest(numbers), len(numbers)) for numbers in level] for level in levels
    ]
    return (greatest(levels[0][0]), (chosen[:-1], chosen[-1]))


def gaining_plan(game, talk, plans):
    """Return the first `(h, i, plan, gain)` by whose reply a kind gets more, or None."""
    for h, many in enumerate(game.kinds):
        for i in range(many):
            best, plan = reply(game, talk, plans, h, i)
            got = got_kind_total(game, talk, plans, h, i)
            if less(got, best):
                return (h, i, plan, sub(best, got))
    return None


def judge_plans(game, talk, plans):
    """Return whether the plans are best against each other."""
    return are_plans(game, talk, plans) and gaining_plan(game, talk, plans) is None
