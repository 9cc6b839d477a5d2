import copy
import unittest

from games import pair, plain_sums, random_game, random_rule, source
from talkmost.cases import Case
from talkmost.game import Game
from talkmost.houses import parse_house
from talkmost.means import kind_total, kind_weight, means, total

ZERO, ONE, TWO, HALF = (0, 1), (1, 1), (2, 1), (1, 2)
HOUSE = "house states rain sun end hearer ann kinds shy bold acts stay go end end"


def told_case():
    """A case in which ann is paid for going in the sun, and the teller for going at all."""
    case = Case(parse_house(HOUSE))
    case.gain("teller", ONE, "ann does go")
    case.gain("ann", TWO, "ann does go state sun")
    case.gain("ann", (-3, 1), "ann does go state rain")
    case.gain("ann", ONE, "ann is bold")
    case.weigh("rain", ["bold"], (1, 3))
    return case


RULE = [[[ONE, ZERO], [HALF, HALF]], [[ZERO, ONE], [(3, 4), (1, 4)]]]


class MeansTest(unittest.TestCase):
    def test_totals(self):
        game = told_case().game()
        self.assertEqual(total(game, RULE, 0), (17, 12))
        self.assertEqual(total(game, RULE, 1), (10, 3))
        self.assertEqual(kind_total(game, RULE, 0, 0), TWO)
        self.assertEqual(kind_total(game, RULE, 0, 1), (4, 3))

    def test_weights_and_means(self):
        game = told_case().game()
        self.assertEqual(kind_weight(game, 0, 0), TWO)
        self.assertEqual(kind_weight(game, 0, 1), (4, 3))
        self.assertEqual(means(game, RULE), ((17, 40), [[ONE, ONE]]))

    def test_a_kind_without_weight(self):
        case = told_case()
        case.weigh("rain", ["shy"], ZERO)
        case.weigh("sun", ["shy"], ZERO)
        game = case.game()
        self.assertEqual(kind_weight(game, 0, 0), ZERO)
        self.assertEqual(kind_total(game, RULE, 0, 0), ZERO)
        self.assertEqual(means(game, RULE), ((5, 16), [[None, ONE]]))

    def test_no_weight_at_all(self):
        game = Game(1, [1, 2], [1, 1], [[ZERO, ZERO]], [[[[TWO], [TWO]]]] * 3)
        rule = [[[ONE], [ONE]]]
        self.assertEqual(total(game, rule, 0), ZERO)
        self.assertEqual(means(game, rule), (None, [[None], [None, None]]))

    def test_a_mean_of_0_is_not_none(self):
        game = Game(1, [1], [1], [[ONE]], [[[[ZERO]]]] * 2)
        self.assertEqual(means(game, [[[ONE]]]), (ZERO, [[ZERO]]))

    def test_one_world_only(self):
        game = Game(1, [1], [2], [[(2, 3)]], [[[[(3, 1), (-3, 1)]]], [[[ONE, (5, 1)]]]])
        rule = [[[HALF, HALF]]]
        self.assertEqual(total(game, rule, 0), ZERO)
        self.assertEqual(total(game, rule, 1), TWO)
        self.assertEqual(means(game, rule), (ZERO, [[(3, 1)]]))

    def test_random_games_against_plain_sums(self):
        numbers = source(3)
        for _ in range(60):
            game = random_game(numbers)
            rule = random_rule(numbers, game)
            before = copy.deepcopy((vars(game), rule))
            for who in range(len(game.kinds) + 1):
                self.assertEqual(total(game, rule, who), pair(plain_sums(game, rule, who)[0]))
            for h, many in enumerate(game.kinds):
                for i in range(many):
                    wanted, weight = plain_sums(game, rule, h + 1, h, i)
                    self.assertEqual(kind_total(game, rule, h, i), pair(wanted))
                    self.assertEqual(kind_weight(game, h, i), pair(weight))
            self.assertEqual(means(game, rule), self.plain_means(game, rule))
            self.assertEqual((vars(game), rule), before)

    def plain_means(self, game, rule):
        def plain_mean(*asked):
            wanted, weight = plain_sums(game, rule, *asked)
            return pair(wanted / weight) if weight else None

        by_hearers = [
            [plain_mean(h + 1, h, i) for i in range(many)] for h, many in enumerate(game.kinds)
        ]
        return (plain_mean(0), by_hearers)


if __name__ == "__main__":
    unittest.main()
