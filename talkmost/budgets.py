"""How few acts to tell are enough."""

from itertools import combinations

from talkmost.draws import rows
from talkmost.moving import most
from talkmost.orders import brings
from talkmost.ratio import first_greatest
from talkmost.terms import Terms, free_terms


def choices(game, budget):
    """Return the list of all choices within the budget."""
    lists = [act_lists(acts, many) for acts, many in zip(game.acts, budget)]
    bounds = [len(lists[h]) for h, kinds in enumerate(game.kinds) for _ in range(kinds)]
    return [choice_at(game, lists, row) for row in rows(bounds)]


def act_lists(acts, many):
    """Return all ascending lists of so many acts, in order."""
    return [list(chosen) for chosen in combinations(range(acts), many)]


def choice_at(game, lists, row):
    """Return the choice of a row: for each hearer's kinds the indexes of their lists."""
    told = []
    for acts, kinds in zip(lists, game.kinds):
        told.append([list(acts[at]) for at in row[:kinds]])
        row = row[kinds:]
    return told


def choice_terms(game, told):
    """Return the terms in which only the chosen acts may be told, all else free."""
    free = free_terms(game)
    return Terms(free.cells, free.seen, free.trusted, told, free.floors)


def budget_most(game, aims, budget):
    """Return ("most", value, told, rule, papers), or ("nothing", papers) if no choice can be kept."""
    chosen = choices(game, budget)
    found = [most(game, choice_terms(game, told), aims) for told in chosen]
    papers = [(told, result[-1]) for told, result in zip(chosen, found)]
    kept = [(told, result) for told, result in zip(chosen, found) if result[0] == "most"]
    if not kept:
        return ("nothing", papers)
    told, (_, value, rule, _) = kept[first_greatest([result[1] for _, result in kept])]
    return ("most", value, told, rule, papers)


def frontier(game, aims, value):
    """Return the list of the least budgets that bring the aim to the value."""
    least = []
    for budget in budgets(game):
        # More acts are looser, so that a budget above a least one brings the aim there anyhow.
        if not any([is_within(found, budget) for found in least]):
            if budget_brings(game, aims, budget, value):
                least.append(budget)
    return least


def budgets(game):
    """Return the list of all budgets, by their sums and then by the first number that differs."""
    found = [[many + 1 for many in row] for row in rows(game.acts)]
    return sorted(found, key=sum)


def is_within(budget, other):
    """Return whether no number of a budget is above that of the other one."""
    return all([many <= limit for many, limit in zip(budget, other)])


def budget_brings(game, aims, budget, value):
    """Return whether some choice within the budget brings the aim to the value."""
    for told in choices(game, budget):
        if brings(game, choice_terms(game, told), aims, value):
            return True
    return False
