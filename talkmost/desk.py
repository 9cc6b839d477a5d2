"""Desks: a case, standing questions about it, and a journal of what was entered."""

from talkmost.cases import Case
from talkmost.errors import NotAllowed, UnknownName
from talkmost.houses import hearer_names
from talkmost.movepapers import judge_most
from talkmost.moving import most
from talkmost.ratio import ONE, ZERO, is_fraction, neg
from talkmost.terms import free_terms
from talkmost.words import is_name

SIDES = ("most", "least")
MOST_QUESTIONS = 6
MOST_ENTRIES = 200


class Desk:
    """A house, its case, questions that stand, and the entries that were taken."""

    def __init__(self, house):
        self.house = house
        self._case = Case(house)
        # A question is kept as (name, side).
        self._questions = []
        self._journal = []

    def do(self, entry):
        """Take an entry."""
        case, questions = entered(self._case, self._questions, entry)
        if len(self._journal) >= MOST_ENTRIES:
            raise NotAllowed(f"a desk takes at most {MOST_ENTRIES} entries")
        self._case = case
        self._questions = questions
        self._journal.append(copied(entry))

    def game(self):
        """Return the game of the case."""
        return self._case.game()

    def standing(self):
        """Return the list of `(name, number)` of all questions that stand."""
        return answers(self._case, self._questions)

    def changes(self, entry):
        """Return the list of `(name, before, after)` of all numbers that an entry would change."""
        case, questions = entered(self._case, self._questions, entry)
        after = {name: number for name, number in answers(case, questions)}
        return [
            (name, number, after[name]) for name, number in self.standing()
            if name in after and after[name] != number
        ]

    def touches(self, entry, paper):
        """Return whether an entry touches a paper."""
        entered(self._case, self._questions, entry)
        if entry[0] == "weigh":
            return True
        if entry[0] == "gain":
            return touches_gain(self.house, entry[1], paper)
        if entry[0] == "strike":
            return touches_gain(self.house, self._case.gains()[entry[1]][0], paper)
        return False

    def judge_side(self, side, value, paper):
        """Return whether the paper shows that the teller's total is at most, or at least, the value."""
        if not is_fraction(value):
            return False
        game = self.game()
        number = value if side == "most" else neg(value)
        return judge_most(game, free_terms(game), side_aims(game, side), number, paper)

    def journal(self):
        """Return the list of the entries that were taken."""
        return [copied(entry) for entry in self._journal]


def replay(house, journal):
    """Return a new desk that took these entries."""
    desk = Desk(house)
    for entry in journal:
        desk.do(entry)
    return desk


def copied(entry):
    """Return a copy of an entry, with the list inside."""
    return tuple([list(part) if isinstance(part, list) else part for part in entry])


def entered(case, questions, entry):
    """Return a case and questions as they are after an entry, or raise what the entry is refused with."""
    case = copied_case(case)
    if entry[0] == "weigh":
        case.weigh(entry[1], entry[2], entry[3])
    elif entry[0] == "gain":
        case.gain(entry[1], entry[2], entry[3])
    elif entry[0] == "strike":
        case.strike(entry[1])
    elif entry[0] == "ask":
        questions = asked(questions, entry[1], entry[2])
    else:
        questions = dropped(questions, entry[1])
    return (case, questions)


def copied_case(case):
    """Return another case with the same weights and gains."""
    other = Case(case.house)
    for state, kinds, weight in case.weights():
        other.weigh(state, kinds, weight)
    for who, amount, event in case.gains():
        other.gain(who, amount, event)
    return other


def asked(questions, name, side):
    """Return the questions with one under a name, in the place of the one that stands under it."""
    if not is_name(name):
        raise NotAllowed("a question has a name")
    if side not in SIDES:
        raise NotAllowed("a question asks for the most or the least")
    names = [other for other, _ in questions]
    if name in names:
        return [(name, side) if other == name else (other, old) for other, old in questions]
    if len(names) >= MOST_QUESTIONS:
        raise NotAllowed(f"at most {MOST_QUESTIONS} questions stand")
    return questions + [(name, side)]


def dropped(questions, name):
    """Return the questions without the one under a name."""
    if name not in [other for other, _ in questions]:
        raise UnknownName(f"no question stands under {name}")
    return [(other, side) for other, side in questions if other != name]


def answers(case, questions):
    """Return the list of `(name, number)` of questions about a case."""
    game = case.game()
    sides = [side for side in SIDES if side in [other for _, other in questions]]
    numbers = {side: side_number(game, side) for side in sides}
    return [(name, numbers[side]) for name, side in questions]


def side_number(game, side):
    """Return the most, or the least, of the teller's total under the free terms."""
    # Under the free terms there is always a rule, so that the answer has a value.
    value = most(game, free_terms(game), side_aims(game, side))[1]
    return value if side == "most" else neg(value)


def side_aims(game, side):
    """Return the aim that asks for the teller's total, or for its negative."""
    return [ONE if side == "most" else neg(ONE)] + [ZERO for _ in game.kinds]


def touches_gain(house, who, paper):
    """Return whether a gain that is added or removed touches a paper."""
    if who == "teller":
        return True
    by_kinds = paper[1][hearer_names(house).index(who)]
    return any([
        price != ZERO
        for by_said in by_kinds for by_told in by_said for by_acts in by_told for price in by_acts
    ])
