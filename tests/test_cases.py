import unittest

from talkmost.cases import Case
from talkmost.errors import BadText, NotAllowed, UnknownName
from talkmost.houses import parse_house

HOUSE = (
    "house states rain sun end hearer ann kinds shy bold acts stay go end "
    "hearer bob kinds calm acts go run end end"
)
ZERO, ONE, TWO, HALF = (0, 1), (1, 1), (2, 1), (1, 2)


def new_case():
    return Case(parse_house(HOUSE))


def full_case():
    case = new_case()
    for number in range(24):
        case.gain("teller", (number, 1), "")
    return case


class CaseTestCase(unittest.TestCase):
    def refused(self, case, error, call, *arguments):
        """The call raises this error, and nothing changes."""
        before = (case.weights(), case.gains())
        with self.assertRaises(error) as caught:
            call(*arguments)
        self.assertIs(type(caught.exception), error)
        self.assertEqual((case.weights(), case.gains()), before)
        return caught.exception


class WeightsTest(CaseTestCase):
    def test_the_house_is_the_object_that_was_passed(self):
        house = parse_house(HOUSE)
        self.assertIs(Case(house).house, house)

    def test_weights_at_first(self):
        self.assertEqual(new_case().weights(), [
            ("rain", ["shy", "calm"], ONE), ("rain", ["bold", "calm"], ONE),
            ("sun", ["shy", "calm"], ONE), ("sun", ["bold", "calm"], ONE),
        ])

    def test_the_order_of_worlds(self):
        case = Case(parse_house("house states s t end hearer x kinds a b acts a end "
                                "hearer y kinds c d e acts a end end"))
        wanted = [(s, [a, b], ONE) for s in "st" for a in "ab" for b in "cde"]
        self.assertEqual(case.weights(), wanted)
        case.weigh("t", ["a", "e"], HALF)
        wanted[8] = ("t", ["a", "e"], HALF)
        self.assertEqual(case.weights(), wanted)
        self.assertEqual(case.game().weights, [[ONE] * 6, [ONE, ONE, HALF, ONE, ONE, ONE]])

    def test_weigh(self):
        case = new_case()
        kinds = ["bold", "calm"]
        self.assertIsNone(case.weigh("sun", kinds, (3, 7)))
        self.assertIsNone(case.weigh("rain", ["shy", "calm"], ZERO))
        self.assertEqual(kinds, ["bold", "calm"])
        self.assertEqual([weight for state, kinds, weight in case.weights()],
                         [ZERO, ONE, ONE, (3, 7)])
        case.weigh("sun", kinds, TWO)
        self.assertEqual(case.weights()[3], ("sun", ["bold", "calm"], TWO))

    def test_weigh_refuses(self):
        case = new_case()
        self.refused(case, UnknownName, case.weigh, "snow", ["shy", "calm"], ONE)
        self.refused(case, UnknownName, case.weigh, "shy", ["shy", "calm"], ONE)
        self.refused(case, NotAllowed, case.weigh, "sun", [], ONE)
        self.refused(case, NotAllowed, case.weigh, "sun", ["shy"], ONE)
        self.refused(case, NotAllowed, case.weigh, "sun", ["shy", "calm", "calm"], ONE)
        self.refused(case, UnknownName, case.weigh, "sun", ["calm", "shy"], ONE)
        self.refused(case, UnknownName, case.weigh, "sun", ["shy", "bold"], ONE)
        self.refused(case, NotAllowed, case.weigh, "sun", ["shy", "calm"], (-1, 9))

    def test_weigh_refuses_in_order(self):
        case = new_case()
        self.refused(case, UnknownName, case.weigh, "snow", ["none"], (-1, 1))
        self.refused(case, NotAllowed, case.weigh, "sun", ["none"], (-1, 1))
        self.refused(case, NotAllowed, case.weigh, "sun", ["none", "none", "none"], ONE)
        self.refused(case, UnknownName, case.weigh, "sun", ["shy", "none"], (-1, 1))

    def test_new_lists(self):
        case = new_case()
        first = case.weights()
        first[0][1].append("x")
        first.clear()
        self.assertEqual(case.weights()[0], ("rain", ["shy", "calm"], ONE))
        self.assertEqual(len(case.weights()), 4)
        self.assertEqual(case.house.hearers[0], ("ann", ["shy", "bold"], ["stay", "go"]))


class GainsTest(CaseTestCase):
    def test_gain(self):
        case = new_case()
        self.assertEqual(case.gains(), [])
        self.assertIsNone(case.gain("teller", TWO, "  ann  does go   state sun "))
        case.gain("bob", (-1, 2), "")
        case.gain("ann", ZERO, "bob is calm")
        self.assertEqual(case.gains(), [
            ("teller", TWO, "ann does go state sun"), ("bob", (-1, 2), ""), ("ann", ZERO, "bob is calm"),
        ])

    def test_gain_refuses(self):
        case = new_case()
        for who in ("eve", "shy", "sun", "", "Teller", "hearer"):
            self.refused(case, UnknownName, case.gain, who, ONE, "")
        self.assertEqual(self.refused(case, BadText, case.gain, "ann", ONE, "ann is calm").at, 2)
        self.assertEqual(self.refused(case, BadText, case.gain, "teller", ONE, "state").at, 1)
        self.assertEqual(self.refused(case, BadText, case.gain, "teller", ONE, "end").at, 0)

    def test_the_twenty_fifth_gain(self):
        case = full_case()
        self.assertEqual(len(case.gains()), 24)
        self.refused(case, NotAllowed, case.gain, "teller", ONE, "")
        case.strike(3)
        case.gain("ann", ONE, "")
        self.refused(case, NotAllowed, case.gain, "ann", ONE, "")

    def test_gain_refuses_in_order(self):
        case = full_case()
        self.refused(case, UnknownName, case.gain, "eve", ONE, "state")
        self.assertEqual(self.refused(case, BadText, case.gain, "ann", ONE, "state").at, 1)
        case.strike(0)
        self.refused(case, UnknownName, case.gain, "eve", ONE, "state")

    def test_strike(self):
        case = full_case()
        self.assertIsNone(case.strike(0))
        case.strike(22)
        case.strike(10)
        self.assertEqual([amount[0] for who, amount, event in case.gains()],
                         [n for n in range(24) if n not in (0, 11, 23)])

    def test_strike_refuses(self):
        case = new_case()
        self.refused(case, NotAllowed, case.strike, 0)
        case.gain("ann", ONE, "")
        case.gain("bob", ONE, "")
        for index in (-1, -2, 2, 3, 99, 10 ** 9999, -10 ** 9999):
            self.refused(case, NotAllowed, case.strike, index)
        case.strike(1)
        self.refused(case, NotAllowed, case.strike, 1)
        self.assertEqual(case.gains(), [("ann", ONE, "")])

    def test_new_lists(self):
        case = new_case()
        case.gain("ann", ONE, "")
        case.gains().clear()
        self.assertEqual(case.gains(), [("ann", ONE, "")])


class GameOfCaseTest(unittest.TestCase):
    def test_counts(self):
        game = new_case().game()
        self.assertEqual((game.states, game.kinds, game.acts), (2, [2, 1], [2, 2]))
        self.assertEqual(game.weights, [[ONE, ONE], [ONE, ONE]])

    def test_a_game_without_gains(self):
        self.assertEqual(new_case().game().pays, [[[[ZERO] * 4] * 2] * 2] * 3)

    def test_pays(self):
        case = new_case()
        case.gain("teller", TWO, "state sun ann does go")
        case.gain("teller", (-1, 2), "bob does run")
        case.gain("teller", HALF, "ann is bold state sun")
        case.gain("bob", (-3, 1), "ann is bold")
        case.gain("bob", ONE, "")
        pays = case.game().pays
        # Rows of acts: stay go, stay run, go go, go run.
        self.assertEqual(pays[0], [
            [[ZERO, (-1, 2), ZERO, (-1, 2)], [ZERO, (-1, 2), ZERO, (-1, 2)]],
            [[ZERO, (-1, 2), TWO, (3, 2)], [HALF, ZERO, (5, 2), TWO]],
        ])
        self.assertEqual(pays[1], [[[ZERO] * 4] * 2] * 2)
        self.assertEqual(pays[2], [[[ONE] * 4, [(-2, 1)] * 4]] * 2)

    def test_after_changes(self):
        case = new_case()
        case.gain("ann", ONE, "ann does stay")
        case.gain("ann", (5, 1), "")
        case.gain("ann", (1, 3), "ann does stay")
        case.strike(1)
        case.weigh("rain", ["bold", "calm"], (7, 2))
        game = case.game()
        self.assertEqual(game.weights, [[ONE, (7, 2)], [ONE, ONE]])
        self.assertEqual(game.pays[1], [[[(4, 3), (4, 3), ZERO, ZERO]] * 2] * 2)

    def test_a_game_stays_when_its_case_changes(self):
        case = new_case()
        case.gain("ann", ONE, "")
        game = case.game()
        case.weigh("rain", ["shy", "calm"], ZERO)
        case.strike(0)
        self.assertEqual(game.weights, [[ONE, ONE], [ONE, ONE]])
        self.assertEqual(game.pays[1], [[[ONE] * 4] * 2] * 2)
        game.weights[0][0] = TWO
        game.kinds.append(9)
        self.assertEqual(case.weights()[0][2], ZERO)
        self.assertEqual(case.game().kinds, [2, 1])


if __name__ == "__main__":
    unittest.main()
