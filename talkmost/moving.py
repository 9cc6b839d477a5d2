"""The most to which talk can bring an aim under terms, found by a program."""

from talkmost.columns import Columns
from talkmost.draws import replaced, size
from talkmost.means import kind_weight
from talkmost.programs import solve
from talkmost.ratio import ONE, ZERO, added, greatest, mul, neg, sub
from talkmost.terms import cell_states, counts, lies_asked


def most(game, terms, aims):
    """Return ("most", value, rule, paper), or ("nothing", paper) if no rule keeps the terms."""
    columns = Columns(game, terms)
    tops, costs = shortfalls(columns, aims)
    extras = extra_columns(game, terms)
    lines = named_lines(game, terms, columns, extras)
    found = solve(costs + [ZERO] * len(extras), [line for _, line in lines])
    prices = {name: price for (name, _), price in zip(lines, found[-1])}
    if found[0] == "nothing":
        return ("nothing", paper_of(game, terms, columns, {}, prices))
    value = sub(added(list(tops.values())), found[1])
    chances = {column: chance for column, chance in zip(columns.places, found[2])}
    rule = rule_of_cells(game, terms, chances)
    return ("most", value, rule, paper_of(game, terms, columns, tops, prices))


def shortfalls(columns, aims):
    """Return the most of the aim by cells and rows of kinds, and how much less each column brings."""
    # The same for all acts can be taken off a cell's costs; with no cost below 0 solving is quick.
    brought = [
        added([mul(aim, columns.value(who, column)) for who, aim in enumerate(aims)])
        for column in columns.places
    ]
    by_worlds = {}
    for (c, k, _), number in zip(columns.places, brought):
        by_worlds.setdefault((c, k), []).append(number)
    tops = {world: greatest(by_worlds[world]) for world in by_worlds}
    return (tops, [sub(tops[(c, k)], number) for (c, k, _), number in zip(columns.places, brought)])


def extra_columns(game, terms):
    """Return all `(h, i, said, told)` at which a lie may get more by another act than by what is told.

    A lie that says the true kind may not: there already the lines of its tellings keep it from that.
    """
    return [
        (h, i, said, told) for h, i, said in lies_asked(game, terms) if i != said
        for told in terms.told[h][said]
    ]


def named_lines(game, terms, columns, extras):
    """Return the list of all tuples of a name and a line of the program."""
    lines = [
        (("world", c, k), (world_entries(columns, extras, c, k), "equal", ONE))
        for c in range(columns.cells) for k in range(len(columns.kinds))
    ]
    for lie in lies_asked(game, terms):
        lines.extend(lie_lines(game, terms, columns, extras, lie))
    for n, (h, i, value) in enumerate(terms.floors):
        right = mul(value, kind_weight(game, h, i))
        lines.append((("floor", n), (floor_entries(columns, extras, h, i), "least", right)))
    return lines


def lie_lines(game, terms, columns, extras, lie):
    """Return the tuples of a name and a line that keep a lie from gaining."""
    h, i, said = lie
    lines = []
    for told in terms.told[h][said]:
        for act in range(game.acts[h]):
            if act != told:
                entries = telling_entries(columns, extras, (h, i, said, told), act)
                lines.append((("telling", lie, told, act), (entries, "least", ZERO)))
    if i != said:
        lines.append((("lie", lie), (lie_entries(columns, extras, lie), "least", ZERO)))
    return lines


def world_entries(columns, extras, c, k):
    """Return the entries by which the chances of a cell and row of kinds are added up."""
    return [ONE if column[:2] == (c, k) else ZERO for column in columns.places] + [ZERO] * len(extras)


def lie_entries(columns, extras, lie):
    """Return the entries by which the truth gets more than a lie that says another kind."""
    h, i, said = lie
    entries = []
    for column in columns.places:
        kind = columns.kind(h, column)
        if kind == i:
            entries.append(columns.value(h + 1, column))
        elif kind == said:
            entries.append(neg(columns.other_value(h, column, i, columns.act(h, column))))
        else:
            entries.append(ZERO)
    return entries + [(-1, 1) if extra[:3] == lie else ZERO for extra in extras]


def telling_entries(columns, extras, telling, act):
    """Return the entries by which what is told, and the extra, get more than another act."""
    h, i, said, told = telling
    entries = []
    for column in columns.places:
        if columns.kind(h, column) == said and columns.act(h, column) == told:
            obeying = columns.other_value(h, column, i, told)
            entries.append(sub(obeying, columns.other_value(h, column, i, act)))
        else:
            entries.append(ZERO)
    return entries + [ONE if extra == telling else ZERO for extra in extras]


def floor_entries(columns, extras, h, i):
    """Return the entries that add up to the total of a kind."""
    totals = [
        columns.value(h + 1, column) if columns.kind(h, column) == i else ZERO
        for column in columns.places
    ]
    return totals + [ZERO] * len(extras)


def rule_of_cells(game, terms, chances):
    """Return the rule that has the chances of columns in all states of their cells."""
    cells = {s: c for c, cell in enumerate(cell_states(terms)) for s in cell}
    acts = size(game.acts)
    return [
        [[chances.get((cells[s], k, a), ZERO) for a in range(acts)] for k in range(size(game.kinds))]
        for s in range(game.states)
    ]


def paper_of(game, terms, columns, tops, prices):
    """Return the paper that the prices of the lines make, with what was taken off the costs."""
    worlds = [
        [sub(tops.get((c, k), ZERO), prices[("world", c, k)]) for k in range(len(columns.kinds))]
        for c in range(columns.cells)
    ]
    by_hearers = [
        [[lie_prices(game, terms, prices, (h, i, said)) for said in range(kinds)] for i in range(kinds)]
        for h, kinds in enumerate(game.kinds)
    ]
    return (worlds, by_hearers, [prices[("floor", n)] for n in range(len(terms.floors))])


def lie_prices(game, terms, prices, lie):
    """Return the prices of a lie by what is told and what is done."""
    h, i, said = lie
    acts = game.acts[h]
    by_told = [
        [prices.get(("telling", lie, told, act), ZERO) for act in range(acts)] for told in range(acts)
    ]
    if not counts(terms, h, i, said):
        return by_told
    # The prices of other acts add up to at most that of the lie; the rest is the price of obeying.
    sums = [added(by_acts) for by_acts in by_told]
    price = greatest([prices.get(("lie", lie), ZERO), *sums])
    for told in terms.told[h][said]:
        by_told[told] = replaced(by_told[told], told, sub(price, sums[told]))
    return by_told
