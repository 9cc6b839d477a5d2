"""Terms at random, and what the document asks of papers, worked out once more by Python's fractions."""

from fractions import Fraction

from games import count, random_number
from talking import all_rows, spot
from talkmost.terms import Terms


def random_floors(source, game, low=-4, high=2):
    floors = []
    for _ in range(source.randint(0, 4)):
        h = source.randrange(len(game.kinds))
        floors.append((h, source.randrange(game.kinds[h]), random_number(source, low, high)))
    return floors


def random_told(source, game):
    return [
        [sorted(source.sample(range(acts), source.randint(1, acts))) for _ in range(kinds)]
        for kinds, acts in zip(game.kinds, game.acts)
    ]


def random_terms(source, game):
    cells = [source.choice([-1, 5, 7, 0]) for _ in range(game.states)]
    trusted = [h for h in range(len(game.kinds)) if source.random() < 0.3]
    source.shuffle(trusted)
    return Terms(cells, source.random() < 0.5, trusted, random_told(source, game), random_floors(source, game))


def plain_cells(terms):
    """The states of each cell, by looking for each label in turn."""
    labels = []
    for label in terms.cells:
        if label not in labels:
            labels.append(label)
    return [[s for s, own in enumerate(terms.cells) if own == label] for label in labels]


def plain_asked(game, terms):
    """All lies that count, as tuples (h, i, said)."""
    return [
        (h, i, said) for h in range(len(game.kinds)) if h not in terms.trusted
        for i in range(game.kinds[h]) for said in range(game.kinds[h]) if not terms.seen or said == i
    ]


def plain_value(game, cell, who, kinds, acts):
    k, a = spot(game.kinds, kinds), spot(game.acts, acts)
    return sum([Fraction(*game.weights[s][k]) * Fraction(*game.pays[who][s][k][a]) for s in cell])


def plain_columns(game, terms):
    """All columns as tuples (c, row of kinds, row of acts)."""
    return [
        (c, kinds, acts) for c in range(len(plain_cells(terms)))
        for kinds in all_rows(game.kinds) for acts in all_rows(game.acts)
        if all(act in terms.told[h][kinds[h]] for h, act in enumerate(acts))
    ]


def other(row, at, number):
    return row[:at] + (number,) + row[at + 1:]


def plain_sum(game, terms, aims, paper, column):
    """What adds up at a column of point 39."""
    c, kinds, acts = column
    cell = plain_cells(terms)[c]
    worth = sum([Fraction(*aim) * plain_value(game, cell, w, kinds, acts) for w, aim in enumerate(aims)])
    for h, i in enumerate(kinds):
        own = Fraction(0)
        for said in range(game.kinds[h]):
            told = terms.told[h][said][0]
            own += sum([Fraction(*price) for price in paper[1][h][i][said][told]])
        worth += own * plain_value(game, cell, h + 1, kinds, acts)
        for j in range(game.kinds[h]):
            for b in range(game.acts[h]):
                price = Fraction(*paper[1][h][j][i][acts[h]][b])
                worth -= price * plain_value(game, cell, h + 1, other(kinds, h, j), other(acts, h, b))
    for (h, i, _), price in zip(terms.floors, paper[2]):
        if kinds[h] == i:
            worth += Fraction(*price) * plain_value(game, cell, h + 1, kinds, acts)
    return worth


def plain_holds(game, terms, aims, paper):
    return all([
        plain_sum(game, terms, aims, paper, column) <= Fraction(*paper[0][column[0]][spot(game.kinds, column[1])])
        for column in plain_columns(game, terms)
    ])


def plain_allowed(game, terms, paper):
    asked = plain_asked(game, terms)
    for h in range(len(game.kinds)):
        for i in range(game.kinds[h]):
            for said in range(game.kinds[h]):
                sums = []
                for told in range(game.acts[h]):
                    prices = [Fraction(*price) for price in paper[1][h][i][said][told]]
                    if (h, i, said) in asked and told in terms.told[h][said]:
                        sums.append(sum(prices))
                        if min(prices) < 0:
                            return False
                    elif prices != [0] * len(prices):
                        return False
                if len(set(sums)) > 1:
                    return False
    return all([price[0] >= 0 for price in paper[2]])


def plain_weight(game, h, i):
    return sum([
        Fraction(*game.weights[s][spot(game.kinds, kinds)])
        for s in range(game.states) for kinds in all_rows(game.kinds) if kinds[h] == i
    ], Fraction(0))


def plain_gives(game, terms, paper):
    gives = sum([Fraction(*price) for prices in paper[0] for price in prices], Fraction(0))
    for (h, i, value), price in zip(terms.floors, paper[2]):
        gives -= Fraction(*price) * Fraction(*value) * plain_weight(game, h, i)
    return gives


def plain_accepts(game, terms, aims, value, paper):
    """Whether a paper of the right lengths is accepted."""
    if not plain_allowed(game, terms, paper) or not plain_holds(game, terms, aims, paper):
        return False
    return plain_gives(game, terms, paper) <= Fraction(*value)


def shape(game, terms):
    """The counts that say how many lists of how many numbers there are in a paper, hearer by hearer."""
    lies = [[kinds, kinds, acts, acts] for kinds, acts in zip(game.kinds, game.acts)]
    return [len(plain_cells(terms)), count(game.kinds)], lies, [len(terms.floors)]


def is_nested(item, counts):
    if not counts:
        return isinstance(item, tuple) and len(item) == 2
    return isinstance(item, list) and len(item) == counts[0] and all(is_nested(part, counts[1:]) for part in item)


def has_shape(game, terms, paper):
    worlds, lies, floors = shape(game, terms)
    return (
        isinstance(paper, tuple) and len(paper) == 3 and is_nested(paper[0], worlds)
        and is_nested(paper[2], floors) and len(paper[1]) == len(lies)
        and all(is_nested(item, counts) for item, counts in zip(paper[1], lies))
    )
