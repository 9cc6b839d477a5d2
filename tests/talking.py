"""Talks and plans for the tests, and the sums of the document over histories told once more."""

from fractions import Fraction
from functools import lru_cache
from itertools import product

from games import count, random_chances
from talkmost.talks import Talk


@lru_cache(maxsize=None)
def ordered(bounds):
    """The place of each row below the bounds, by counting the rows."""
    return {row: at for at, row in enumerate(product(*[range(bound) for bound in bounds]))}


def spot(bounds, row):
    return ordered(tuple(bounds))[tuple(row)]


def all_rows(bounds):
    return list(ordered(tuple(bounds)))


def before(talk, r):
    """The bounds of the histories of the rounds before round r."""
    bounds = []
    for reports, tellings in list(zip(talk.reports, talk.tellings))[:r]:
        bounds += list(reports) + list(tellings)
    return bounds


def own_before(talk, h, r):
    bounds = []
    for reports, tellings in list(zip(talk.reports, talk.tellings))[:r]:
        bounds += [reports[h], tellings[h]]
    return bounds


def told_rounds(talk, history):
    """A history as a list of tuples (reports, tellings) by rounds."""
    many = talk.hearers
    parts = [list(history[at:at + many]) for at in range(0, len(history), many)]
    return list(zip(parts[::2], parts[1::2]))


def own_spot(talk, h, r, history):
    own = []
    for reports, tellings in told_rounds(talk, history)[:r]:
        own += [reports[h], tellings[h]]
    return spot(own_before(talk, h, r), own)


def plain_tellings(talk, s, history):
    chance = Fraction(1)
    for r, (reports, tellings) in enumerate(told_rounds(talk, history)):
        known = list(history[:2 * r * talk.hearers]) + reports
        n = spot(before(talk, r) + talk.reports[r], known)
        chance *= Fraction(*talk.chances[r][s][n][spot(talk.tellings[r], tellings)])
    return chance


def plain_reports(talk, plans, kinds, history, without=None):
    chance = Fraction(1)
    for r, (reports, _) in enumerate(told_rounds(talk, history)):
        for h, report in enumerate(reports):
            if h != without:
                own = plans[h][0][kinds[h]][r][own_spot(talk, h, r, history)]
                chance *= Fraction(*own[report])
    return chance


def plain_acts(talk, plans, kinds, history, acts, without=None):
    chance = Fraction(1)
    for h, act in enumerate(acts):
        if h != without:
            own = own_spot(talk, h, len(talk.reports), history)
            chance *= Fraction(*plans[h][1][kinds[h]][own][act])
    return chance


def plain_chance(talk, plans, s, kinds, history):
    return plain_tellings(talk, s, history) * plain_reports(talk, plans, kinds, history)


def plain_histories(talk):
    return all_rows(before(talk, len(talk.reports)))


def plain_rule(game, talk, plans):
    """The rule that the talk with the plans comes to, of Python's fractions."""
    rule = []
    for s in range(game.states):
        rule.append([])
        for kinds in all_rows(game.kinds):
            chances = [Fraction(0)] * count(game.acts)
            for history in plain_histories(talk):
                here = plain_chance(talk, plans, s, kinds, history)
                for a, acts in enumerate(all_rows(game.acts)):
                    chances[a] += here * plain_acts(talk, plans, kinds, history, acts)
            rule[s].append(chances)
    return rule


def plain_got(game, rule, who, h=None, i=None):
    """A total under a rule of Python's fractions."""
    got = Fraction(0)
    for s in range(game.states):
        for k, kinds in enumerate(all_rows(game.kinds)):
            if h is None or kinds[h] == i:
                for chance, pay in zip(rule[s][k], game.pays[who][s][k]):
                    got += Fraction(*game.weights[s][k]) * chance * Fraction(*pay)
    return got


def plain_values(game, talk, plans, h, i):
    """The values of all acts at the end, by own histories."""
    ends = own_before(talk, h, len(talk.reports))
    values = [[Fraction(0)] * game.acts[h] for _ in range(count(ends))]
    for s in range(game.states):
        for k, kinds in enumerate(all_rows(game.kinds)):
            if kinds[h] != i:
                continue
            for history in plain_histories(talk):
                here = Fraction(*game.weights[s][k]) * plain_tellings(talk, s, history)
                here *= plain_reports(talk, plans, kinds, history, h)
                n = own_spot(talk, h, len(talk.reports), history)
                for a, acts in enumerate(all_rows(game.acts)):
                    others = plain_acts(talk, plans, kinds, history, acts, h)
                    values[n][acts[h]] += here * others * Fraction(*game.pays[h + 1][s][k][a])
    return values


def random_counts(source, game, rounds, most):
    """Counts of so many rounds with at most so many histories."""
    many = len(game.kinds)
    while True:
        reports = [[source.randint(1, 3) for _ in range(many)] for _ in range(rounds)]
        tellings = [[source.randint(1, 3) for _ in range(many)] for _ in range(rounds)]
        if count(sum(reports + tellings, [])) <= most:
            return reports, tellings


def talk_of(source, game, reports, tellings):
    """A talk of these counts with chances at random."""
    bare = Talk(len(game.kinds), reports, tellings, [])
    chances = [
        [[random_chances(source, count(tellings[r])) for _ in range(count(before(bare, r) + reports[r]))]
         for _ in range(game.states)]
        for r in range(len(reports))
    ]
    return Talk(len(game.kinds), reports, tellings, chances)


def random_talk(source, game, rounds, most=48):
    return talk_of(source, game, *random_counts(source, game, rounds, most))


def random_plan(source, game, talk, h):
    """A plan of one kind of a hearer."""
    rounds = len(talk.reports)
    reports = [
        [random_chances(source, talk.reports[r][h]) for _ in range(count(own_before(talk, h, r)))]
        for r in range(rounds)
    ]
    acts = [random_chances(source, game.acts[h]) for _ in range(count(own_before(talk, h, rounds)))]
    return (reports, acts)


def random_plans(source, game, talk):
    plans = []
    for h, many in enumerate(game.kinds):
        by_kinds = [random_plan(source, game, talk, h) for _ in range(many)]
        plans.append(([reports for reports, _ in by_kinds], [acts for _, acts in by_kinds]))
    return plans


def random_sure(source, many):
    at = source.randrange(many)
    return [(1, 1) if n == at else (0, 1) for n in range(many)]
