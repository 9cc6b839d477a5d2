import copy
import unittest
from fractions import Fraction

from games import is_lowest, random_number, source
from talkmost.cases import Case
from talkmost.desk import Desk, replay
from talkmost.errors import BadText, NotAllowed, TalkError, UnknownName
from talkmost.houses import parse_house
from talkmost.movepapers import judge_most
from talkmost.moving import most
from talkmost.ratio import neg
from talkmost.terms import free_terms

HOUSE = (
    "house states rain sun end hearer ann kinds shy bold acts stay go end "
    "hearer bob kinds calm acts go run end end"
)
COURT = "house states innocent guilty end hearer judge kinds one acts acquit convict end end"
ZERO, ONE, TWO, HALF, MINUS = (0, 1), (1, 1), (2, 1), (1, 2), (-1, 1)

TRIAL = [
    ("weigh", "innocent", ["one"], (7, 10)),
    ("weigh", "guilty", ["one"], (3, 10)),
    ("gain", "teller", ONE, "judge does convict"),
    ("gain", "judge", ONE, "judge does acquit state innocent"),
    ("gain", "judge", ONE, "state guilty judge does convict"),
]
SOUND = [
    ("weigh", "sun", ["bold", "calm"], (3, 7)), ("gain", "bob", (-1, 2), "ann is shy bob does run"),
    ("gain", "teller", TWO, ""), ("strike", 0), ("ask", "high", "most"), ("ask", "low", "least"),
    ("drop", "high"),
]


def new_desk():
    return Desk(parse_house(HOUSE))


def court():
    return replay(parse_house(COURT), TRIAL)


def answers(desk):
    """All that a desk answers without being told anything."""
    return copy.deepcopy((vars(desk.game()), desk.standing(), desk.journal()))


def side_most(game, side):
    """The most or the least of the teller's total, and the paper for it."""
    sign = ONE if side == "most" else MINUS
    _, value, _, paper = most(game, free_terms(game), [sign] + [ZERO] * len(game.kinds))
    return (value if side == "most" else neg(value)), paper


class DeskTestCase(unittest.TestCase):
    def refused(self, desk, error, entry, paper=None):
        """The entry raises this error and changes nothing; changes and touches raise it, too."""
        before = answers(desk)
        kept = copy.deepcopy(entry)
        paper = paper or side_most(desk.game(), "most")[1]
        caught = []
        for call, arguments in [(desk.do, [entry]), (desk.changes, [entry]), (desk.touches, [entry, paper])]:
            with self.assertRaises(error) as raised:
                call(*arguments)
            self.assertIs(type(raised.exception), error)
            caught.append(raised.exception)
        self.assertEqual(answers(desk), before)
        self.assertEqual(entry, kept)
        if error is BadText:
            self.assertEqual(len({one.at for one in caught}), 1)
        return caught[0]


class EntriesTest(DeskTestCase):
    def test_a_new_desk(self):
        house = parse_house(HOUSE)
        desk = Desk(house)
        self.assertIs(desk.house, house)
        self.assertEqual(vars(desk.game()), vars(Case(house).game()))
        self.assertEqual(desk.standing(), [])
        self.assertEqual(desk.journal(), [])

    def test_each_kind_of_entry(self):
        desk = new_desk()
        case = Case(parse_house(HOUSE))
        for entry in SOUND:
            self.assertIsNone(desk.do(entry))
            if entry[0] in ("weigh", "gain", "strike"):
                getattr(case, entry[0])(*entry[1:])
            self.assertEqual(vars(desk.game()), vars(case.game()))
        self.assertEqual(desk.journal(), SOUND)
        self.assertEqual([name for name, _ in desk.standing()], ["low"])

    def test_refused_by_the_case(self):
        desk = new_desk()
        for entry in SOUND[:3] + [("ask", "high", "most")]:
            desk.do(entry)
        for entry, error in [
            (("weigh", "snow", ["shy", "calm"], ONE), UnknownName),
            (("weigh", "sun", ["shy"], ONE), NotAllowed),
            (("weigh", "sun", ["calm", "shy"], ONE), UnknownName),
            (("weigh", "sun", ["shy", "calm"], (-1, 3)), NotAllowed),
            (("gain", "carl", ONE, ""), UnknownName),
            (("gain", "house", ONE, ""), UnknownName),
            (("gain", "ann", ONE, "state snow"), BadText),
            (("strike", 2), NotAllowed), (("strike", -1), NotAllowed),
        ]:
            self.refused(desk, error, entry)
        self.assertEqual(self.refused(desk, BadText, ("gain", "ann", ONE, "ann is shy ann does run")).at, 5)
        self.assertEqual(self.refused(desk, BadText, ("gain", "teller", ONE, "state sun bob")).at, 3)

    def test_the_error_that_is_named_first(self):
        desk = new_desk()
        self.refused(desk, UnknownName, ("weigh", "snow", ["shy"], MINUS))
        self.refused(desk, NotAllowed, ("weigh", "sun", ["calm"], MINUS))
        self.refused(desk, UnknownName, ("weigh", "sun", ["calm", "calm"], MINUS))
        for _ in range(24):
            desk.do(("gain", "teller", ONE, ""))
        self.refused(desk, UnknownName, ("gain", "carl", ONE, "state"))
        self.assertEqual(self.refused(desk, BadText, ("gain", "ann", ONE, "state")).at, 1)
        self.refused(desk, NotAllowed, ("gain", "ann", ONE, "state sun"))

    def test_names_and_sides(self):
        desk = new_desk()
        for name in ("", "High", "9a", "a b", "a-b", "abcdefghijklm", "end", "teller", "state", " a", "a\n"):
            self.refused(desk, NotAllowed, ("ask", name, "most"))
            self.refused(desk, UnknownName, ("drop", name))
        for side in ("", "mean", "Most", "most ", "teller"):
            self.refused(desk, NotAllowed, ("ask", "a", side))
        for name in ("a", "abcdefghijkl", "z9", "most", "ann"):
            desk.do(("ask", name, "most"))
        self.assertEqual([name for name, _ in desk.standing()], ["a", "abcdefghijkl", "z9", "most", "ann"])

    def test_a_name_that_stands_is_replaced_in_its_place(self):
        desk = court()
        for name in "abc":
            desk.do(("ask", name, "most"))
        desk.do(("ask", "b", "least"))
        self.assertEqual(desk.standing(), [("a", (3, 5)), ("b", ZERO), ("c", (3, 5))])
        desk.do(("ask", "b", "least"))
        self.assertEqual(desk.standing(), [("a", (3, 5)), ("b", ZERO), ("c", (3, 5))])
        desk.do(("drop", "a"))
        desk.do(("ask", "a", "least"))
        self.assertEqual(desk.standing(), [("b", ZERO), ("c", (3, 5)), ("a", ZERO)])

    def test_the_seventh_name_is_refused(self):
        desk = court()
        for name in "fedcba":
            desk.do(("ask", name, "most"))
        self.refused(desk, NotAllowed, ("ask", "g", "most"))
        self.refused(desk, UnknownName, ("drop", "g"))
        desk.do(("ask", "a", "least"))
        desk.do(("ask", "f", "least"))
        self.assertEqual([name for name, _ in desk.standing()], list("fedcba"))
        self.assertEqual([number for _, number in desk.standing()], [ZERO] + [(3, 5)] * 4 + [ZERO])
        self.refused(desk, NotAllowed, ("ask", "b", "mean"))
        desk.do(("drop", "d"))
        self.refused(desk, UnknownName, ("drop", "d"))
        desk.do(("ask", "g", "least"))
        self.assertEqual([name for name, _ in desk.standing()], list("fecbag"))

    def test_the_201st_entry_is_refused_last_of_all(self):
        desk = court()
        for _ in range(195):
            desk.do(("ask", "a", "most"))
        paper = side_most(desk.game(), "most")[1]
        self.assertEqual(len(desk.journal()), 200)
        for entry in [("ask", "a", "most"), ("ask", "b", "least"), ("drop", "a"), ("strike", 0),
                      ("weigh", "guilty", ["one"], ONE), ("gain", "judge", ONE, "")]:
            before = answers(desk)
            with self.assertRaises(NotAllowed):
                desk.do(entry)
            self.assertEqual(answers(desk), before)
            # Asking what it would change takes nothing, so that it is not refused.
            self.assertIsInstance(desk.changes(entry), list)
            self.assertIn(desk.touches(entry, paper), (True, False))
        self.assertEqual(desk.changes(("weigh", "guilty", ["one"], ONE)), [("a", (3, 5), (17, 10))])
        self.refused(desk, UnknownName, ("drop", "b"))
        self.refused(desk, BadText, ("gain", "judge", ONE, "judge"))
        self.refused(desk, UnknownName, ("weigh", "free", ["one"], ONE))
        self.assertEqual(len(desk.journal()), 200)

    def test_refused_entries_do_not_count(self):
        desk = court()
        for _ in range(195):
            desk.do(("ask", "a", "most"))
            with self.assertRaises(UnknownName):
                desk.do(("drop", "b"))
        with self.assertRaises(NotAllowed):
            desk.do(("drop", "a"))


class StandingTest(DeskTestCase):
    def test_both_sides(self):
        desk = court()
        desk.do(("ask", "low", "least"))
        desk.do(("ask", "high", "most"))
        self.assertEqual(desk.standing(), [("low", ZERO), ("high", (3, 5))])
        desk.do(("gain", "teller", (-2, 1), ""))
        self.assertEqual(desk.standing(), [("low", (-2, 1)), ("high", (-7, 5))])

    def test_changes(self):
        desk = court()
        desk.do(("ask", "low", "least"))
        desk.do(("ask", "high", "most"))
        for entry, wanted in [
            (("weigh", "guilty", ["one"], (2, 5)), [("high", (3, 5), (4, 5))]),
            (("weigh", "guilty", ["one"], ONE), [("low", ZERO, (3, 10)), ("high", (3, 5), (17, 10))]),
            (("weigh", "guilty", ["one"], (3, 10)), []),
            (("gain", "teller", ONE, "judge does acquit"), [("low", ZERO, ONE), ("high", (3, 5), ONE)]),
            (("gain", "judge", (5, 1), ""), []),
            (("gain", "judge", (5, 1), "judge does acquit"), [("high", (3, 5), ZERO)]),
            (("strike", 0), [("high", (3, 5), ZERO)]),
            (("strike", 1), [("low", ZERO, (3, 10)), ("high", (3, 5), ONE)]),
            (("ask", "high", "least"), [("high", (3, 5), ZERO)]),
            (("ask", "high", "most"), []),
            (("ask", "low", "most"), [("low", ZERO, (3, 5))]),
            (("ask", "other", "most"), []),
            (("drop", "low"), []),
        ]:
            before = answers(desk)
            kept = copy.deepcopy(entry)
            self.assertEqual(desk.changes(entry), wanted, entry)
            self.assertEqual(entry, kept)
            self.assertEqual(answers(desk), before)

    def test_changes_without_questions(self):
        desk = court()
        self.assertEqual(desk.changes(("strike", 0)), [])
        self.assertEqual(desk.changes(("ask", "a", "most")), [])

    def test_lists_of_its_own(self):
        desk = court()
        desk.do(("ask", "high", "most"))
        desk.standing().clear()
        desk.game().weights[0][0] = TWO
        desk.game().pays[0][0][0][0] = TWO
        self.assertEqual(desk.standing(), [("high", (3, 5))])
        self.assertEqual(desk.game().weights, [[(7, 10)], [(3, 10)]])
        self.assertEqual(desk.game().pays[0], [[[ZERO, ONE]]] * 2)


class TouchesTest(DeskTestCase):
    def paper(self, *touched):
        """A paper of the form of the game's papers, with a price above 0 for each of these hearers."""
        lies = [
            [[[[ZERO, ZERO] for _ in range(2)] for _ in range(kinds)] for _ in range(kinds)] for kinds in (2, 1)]
        for h in touched:
            lies[h][-1][0][1][0] = (1, 9)
        return ([[ZERO] * 2] * 2, lies, [])

    def test_each_kind_of_entry(self):
        desk = new_desk()
        for entry in [("gain", "teller", ONE, ""), ("gain", "ann", ONE, ""), ("gain", "bob", ONE, ""),
                      ("ask", "high", "most")]:
            desk.do(entry)
        for touched in [(), (0,), (1,), (0, 1)]:
            paper = self.paper(*touched)
            kept = copy.deepcopy(paper)
            before = answers(desk)
            for entry, wanted in [
                (("weigh", "sun", ["shy", "calm"], ONE), True),
                (("weigh", "rain", ["bold", "calm"], ZERO), True),
                (("gain", "teller", ONE, ""), True),
                (("gain", "teller", ZERO, "state sun"), True),
                (("gain", "ann", TWO, "bob does run"), 0 in touched),
                (("gain", "bob", TWO, ""), 1 in touched),
                (("strike", 0), True), (("strike", 1), 0 in touched), (("strike", 2), 1 in touched),
                (("ask", "low", "least"), False), (("ask", "high", "least"), False), (("drop", "high"), False),
            ]:
                self.assertIs(desk.touches(entry, paper), wanted, (entry, touched))
            self.assertEqual(answers(desk), before)
            self.assertEqual(paper, kept)

    def test_any_price_of_the_hearer(self):
        desk = new_desk()
        for i in (0, 1):
            for said in (0, 1):
                for told in (0, 1):
                    for act in (0, 1):
                        paper = self.paper()
                        paper[1][0][i][said][told][act] = ONE
                        self.assertIs(desk.touches(("gain", "ann", ONE, ""), paper), True)
                        self.assertIs(desk.touches(("gain", "bob", ONE, ""), paper), False)

    def test_a_paper_that_is_not_touched_is_still_accepted(self):
        numbers = source(281)
        untouched = {"gain": 0, "strike": 0, "ask": 0, "drop": 0}
        for _ in range(60):
            desk = random_desk(numbers, 14)
            papers = [(side, *side_most(desk.game(), side)) for side in ("most", "least")]
            for _ in range(8):
                entry = random_entry(numbers, desk)
                try:
                    touched = [desk.touches(entry, paper) for _, _, paper in papers]
                except TalkError:
                    continue
                after = replay(desk.house, desk.journal() + [entry])
                for (side, value, paper), touches in zip(papers, touched):
                    if not touches:
                        self.assertTrue(after.judge_side(side, value, paper))
                        untouched[entry[0]] += 1
        self.assertGreater(min(untouched.values()), 20)


class SidesTest(DeskTestCase):
    def test_both_sides(self):
        desk = court()
        high, paper = side_most(desk.game(), "most")
        low, other = side_most(desk.game(), "least")
        self.assertEqual((high, low), ((3, 5), ZERO))
        kept = copy.deepcopy((paper, other))
        self.assertIs(desk.judge_side("most", (3, 5), paper), True)
        self.assertIs(desk.judge_side("most", ONE, paper), True)
        self.assertIs(desk.judge_side("most", HALF, paper), False)
        self.assertIs(desk.judge_side("least", ZERO, other), True)
        self.assertIs(desk.judge_side("least", MINUS, other), True)
        self.assertIs(desk.judge_side("least", (1, 100), other), False)
        self.assertEqual((paper, other), kept)

    def test_a_paper_of_a_wrong_length(self):
        desk = court()
        worlds, lies, _ = side_most(desk.game(), "most")[1]
        for paper in [(worlds[:1], lies, []), (worlds, lies + lies, []), (worlds, lies, [ZERO]), (worlds, lies),
                      (worlds, [], []), ([by_kinds * 2 for by_kinds in worlds], lies, [])]:
            for side in ("most", "least"):
                self.assertIs(desk.judge_side(side, (99 if side == "most" else -99, 1), paper), False)

    def test_a_value_that_is_no_fraction(self):
        desk = court()
        for side in ("most", "least"):
            value, paper = side_most(desk.game(), side)
            self.assertIs(desk.judge_side(side, value, paper), True)
            far = 4 if side == "most" else -4
            for wrong in [(far, 2), (-far, -1), (far, 0), (), (far,), (far, 1, 1)]:
                self.assertIs(desk.judge_side(side, wrong, paper), False)

    def test_random(self):
        numbers = source(282)
        for _ in range(40):
            desk = random_desk(numbers, 16)
            game = desk.game()
            for side, sign in (("most", ONE), ("least", MINUS)):
                value, paper = side_most(game, side)
                for number in (value, random_number(numbers, -9, 9)):
                    aims = [sign] + [ZERO] * len(game.kinds)
                    signed = number if side == "most" else neg(number)
                    self.assertIs(
                        desk.judge_side(side, number, paper),
                        judge_most(game, free_terms(game), aims, signed, paper))
                self.assertIs(desk.judge_side(side, value, paper), True)


class JournalTest(DeskTestCase):
    def test_copies(self):
        desk = new_desk()
        kinds = ["shy", "calm"]
        desk.do(("weigh", "sun", kinds, TWO))
        kinds[0] = "bold"
        kinds.append("bold")
        wanted = [("weigh", "sun", ["shy", "calm"], TWO)]
        self.assertEqual(desk.journal(), wanted)
        journal = desk.journal()
        journal[0][2].clear()
        journal.append(("drop", "a"))
        self.assertEqual(desk.journal(), wanted)
        self.assertEqual(desk.game().weights, [[ONE, ONE], [TWO, ONE]])

    def test_entries_that_were_refused_are_not_in_it(self):
        desk = new_desk()
        for entry in [("drop", "a"), ("strike", 0), ("weigh", "sun", [], ONE)]:
            with self.assertRaises(TalkError):
                desk.do(entry)
        self.assertEqual(desk.journal(), [])

    def test_replay(self):
        house = parse_house(COURT)
        journal = copy.deepcopy(TRIAL) + [("ask", "high", "most")]
        kept = copy.deepcopy(journal)
        desk = replay(house, journal)
        self.assertIsInstance(desk, Desk)
        self.assertIs(desk.house, house)
        self.assertEqual(journal, kept)
        self.assertEqual(desk.journal(), journal)
        self.assertEqual(desk.standing(), [("high", (3, 5))])
        self.assertEqual(answers(replay(house, desk.journal())), answers(desk))
        self.assertEqual(replay(house, []).journal(), [])
        journal[0][2].append("two")
        self.assertEqual(desk.journal(), kept)

    def test_replay_raises_what_the_first_refused_entry_raises(self):
        house = parse_house(COURT)
        with self.assertRaises(UnknownName):
            replay(house, TRIAL + [("drop", "a"), ("strike", 9), ("gain", "judge", ONE, "x")])
        with self.assertRaises(NotAllowed):
            replay(house, TRIAL + [("strike", 3), ("strike", 9), ("drop", "a")])
        with self.assertRaises(BadText) as caught:
            replay(house, [("gain", "judge", ONE, "judge does run"), ("strike", 9)])
        self.assertEqual(caught.exception.at, 2)
        with self.assertRaises(NotAllowed):
            replay(house, [("ask", "a", "most")] * 201)
        self.assertEqual(len(replay(house, [("ask", "a", "most")] * 200).journal()), 200)


HOUSES = [
    COURT, HOUSE,
    "house states a b c end hearer one kinds x y acts p q end end",
    "house states s t end hearer left kinds k acts a b end hearer right kinds k acts a b c end end",
]


def random_entry(numbers, desk):
    """An entry for the desk; some are refused."""
    house = desk.house
    who = numbers.choice(["teller"] + [name for name, _, _ in house.hearers])
    kind = numbers.choice(["weigh", "gain", "gain", "gain", "strike", "ask", "drop"])
    if kind == "weigh":
        kinds = [numbers.choice(names) for _, names, _ in house.hearers]
        return ("weigh", numbers.choice(house.states + ["none"]), kinds, random_number(numbers, -1, 5))
    if kind == "gain":
        words = [f"state {numbers.choice(house.states)}"] if numbers.random() < 0.6 else []
        for name, kinds, acts in house.hearers:
            if numbers.random() < 0.3:
                words.append(f"{name} is {numbers.choice(kinds)}")
            if numbers.random() < 0.8:
                words.append(f"{name} does {numbers.choice(acts + ['nothing'] * (numbers.random() < 0.1))}")
        return ("gain", who, random_number(numbers, -4, 4), " ".join(words))
    if kind == "strike":
        return ("strike", numbers.randint(-1, 8))
    name = numbers.choice(["a", "b", "c", "d", "e", "f", "g", "end"])
    return ("drop", name) if kind == "drop" else ("ask", name, numbers.choice(["most", "least", "least", "most", "x"]))


def random_desk(numbers, many):
    desk = Desk(parse_house(numbers.choice(HOUSES)))
    for _ in range(many):
        try:
            desk.do(random_entry(numbers, desk))
        except TalkError:
            pass
    return desk


class Model:
    """What a desk answers, told once more over a case."""

    def __init__(self, house):
        self.case, self.questions, self.taken = Case(house), {}, []

    def do(self, entry):
        if entry[0] in ("weigh", "gain", "strike"):
            getattr(self.case, entry[0])(*entry[1:])
        elif entry[0] == "ask":
            new = entry[1] not in self.questions
            if entry[1] == "end" or entry[2] == "x" or new and len(self.questions) == 6:
                raise NotAllowed("refused")
            self.questions[entry[1]] = entry[2]
        else:
            if entry[1] not in self.questions:
                raise UnknownName("refused")
            del self.questions[entry[1]]
        self.taken.append(entry)

    def standing(self):
        game = self.case.game()
        return [(name, side_most(game, side)[0]) for name, side in self.questions.items()]


class RandomTest(DeskTestCase):
    def outcome(self, call, *arguments):
        try:
            return call(*arguments)
        except TalkError as error:
            return (type(error), getattr(error, "at", None))

    def test_against_the_model(self):
        numbers = source(283)
        changed = refused = 0
        for _ in range(24):
            house = parse_house(numbers.choice(HOUSES))
            desk, model = Desk(house), Model(house)
            for _ in range(25):
                entry = random_entry(numbers, desk)
                before = model.standing()
                changes = self.outcome(desk.changes, entry)
                wanted = self.outcome(model.do, entry)
                self.assertEqual(self.outcome(desk.do, entry), wanted)
                after = model.standing()
                if wanted is None:
                    later = dict(after)
                    self.assertEqual(changes, [
                        (name, number, later[name]) for name, number in before
                        if name in later and later[name] != number])
                    changed += len(changes)
                else:
                    self.assertEqual(changes, wanted)
                    refused += 1
                self.assertEqual(desk.standing(), after)
                self.assertTrue(is_lowest([number for _, number in desk.standing()]))
                self.assertEqual(desk.journal(), model.taken)
                self.assertEqual(vars(desk.game()), vars(model.case.game()))
            self.assertEqual(answers(replay(house, desk.journal())), answers(desk))
        self.assertGreater(min(changed, refused), 50)

    def test_the_least_is_not_above_the_most(self):
        numbers = source(284)
        for _ in range(30):
            desk = random_desk(numbers, 16)
            game = desk.game()
            low, high = side_most(game, "least")[0], side_most(game, "most")[0]
            self.assertLessEqual(Fraction(*low), Fraction(*high))


if __name__ == "__main__":
    unittest.main()
