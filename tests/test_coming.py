import copy
import unittest

from games import pair, random_game, random_number, random_rule, source
from talking import plain_rule, random_plans, random_talk, talk_of
from talkmost.coming import direct, rule_of
from talkmost.game import Game
from talkmost.got import got_kind_total, got_total
from talkmost.means import kind_total, total
from talkmost.plans import are_plans
from talkmost.rules import is_rule
from talkmost.talks import Talk, is_talk

ZERO, ONE, HALF = (0, 1), (1, 1), (1, 2)
A, B, H = [ONE, ZERO], [ZERO, ONE], [HALF, HALF]


class RuleOfTest(unittest.TestCase):
    def test_by_hand(self):
        # The hearer tells its kind, and is told the state if it is kind 1, with a chance of 3/4.
        game = Game(2, [2], [2], [[ONE] * 2] * 2, [[[[ZERO, ONE]] * 2] * 2] * 2)
        talk = Talk(1, [[2]], [[2]], [[[A, [(3, 4), (1, 4)]], [A, [(1, 4), (3, 4)]]]])
        plans = [([[[A]], [[[(1, 3), (2, 3)]]]], [[A, B, A, B], [A, B, B, B]])]
        third = [(1, 3), (2, 3)]
        self.assertEqual(rule_of(game, talk, plans), [[A, third], [A, third]])
        plans[0][1][1][2] = A
        self.assertEqual(rule_of(game, talk, plans), [[A, [(5, 6), (1, 6)]], [A, H]])

    def test_without_rounds(self):
        game = Game(2, [1, 2], [2, 2], [[ONE, ONE]] * 2, [[[[ZERO] * 4] * 2] * 2] * 3)
        plans = [([[]], [[[(1, 3), (2, 3)]]]), ([[], []], [[A], [H]])]
        wanted = [[(1, 3), ZERO, (2, 3), ZERO], [(1, 6), (1, 6), (1, 3), (1, 3)]]
        self.assertEqual(rule_of(game, Talk(2, [], [], []), plans), [wanted, wanted])

    def check(self, game, talk, plans):
        kept = copy.deepcopy((vars(game), vars(talk), plans))
        rule = rule_of(game, talk, plans)
        self.assertEqual((vars(game), vars(talk), plans), kept)
        wanted = [
            [[pair(chance) for chance in chances] for chances in by_kinds]
            for by_kinds in plain_rule(game, talk, plans)
        ]
        self.assertEqual(rule, wanted)
        self.assertIs(is_rule(game, rule), True)
        for who in range(len(game.kinds) + 1):
            self.assertEqual(got_total(game, talk, plans, who), total(game, rule, who))
        for h, many in enumerate(game.kinds):
            for i in range(many):
                self.assertEqual(
                    got_kind_total(game, talk, plans, h, i), kind_total(game, rule, h, i))

    def test_against_sums_over_histories(self):
        numbers = source(61)
        for n in range(24):
            game = random_game(numbers)
            talk = random_talk(numbers, game, n % 4, 24)
            self.check(game, talk, random_plans(numbers, game, talk))

    def test_256_histories(self):
        numbers = source(62)
        pays = [[[[random_number(numbers, -4, 4) for _ in range(6)] for _ in range(2)]] for _ in range(3)]
        game = Game(1, [2, 1], [2, 3], [[ONE, HALF]], pays)
        talk = talk_of(numbers, game, [[2, 2], [1, 2]], [[2, 2], [2, 1]])
        self.check(game, talk, random_plans(numbers, game, talk))
        talk = talk_of(numbers, game, [[2, 2], [2, 2]], [[2, 2], [2, 2]])
        self.check(game, talk, random_plans(numbers, game, talk))


class DirectTest(unittest.TestCase):
    def test_by_hand(self):
        game = Game(1, [2, 1], [1, 2], [[ONE, ONE]], [[[[ZERO, ONE]] * 2]] * 3)
        rule = [[H, A]]
        talk, plans = direct(game, rule)
        self.assertEqual(talk.hearers, 2)
        self.assertEqual((talk.reports, talk.tellings, talk.chances), ([[2, 1]], [[1, 2]], [rule]))
        self.assertEqual(plans, [
            ([[[A]], [[B]]], [[[ONE], [ONE]], [[ONE], [ONE]]]), ([[[[ONE]]]], [[A, B]]),
        ])

    def test_whatever_is_reported_the_act_that_is_told_is_done(self):
        game = Game(1, [2], [3], [[ONE, ONE]], [[[[ZERO] * 3] * 2]] * 2)
        sure = [[ONE, ZERO, ZERO], [ZERO, ONE, ZERO], [ZERO, ZERO, ONE]]
        talk, plans = direct(game, [[sure[0], sure[2]]])
        self.assertEqual(plans, [([[[A]], [[B]]], [sure + sure, sure + sure])])

    def test_it_comes_to_the_rule(self):
        numbers = source(63)
        for _ in range(40):
            game = random_game(numbers)
            rule = random_rule(numbers, game)
            kept = copy.deepcopy((vars(game), rule))
            talk, plans = direct(game, rule)
            self.assertIs(is_talk(game, talk), True)
            self.assertIs(are_plans(game, talk, plans), True)
            self.assertEqual((len(talk.reports), len(talk.tellings)), (1, 1))
            self.assertEqual(rule_of(game, talk, plans), rule)
            self.assertEqual((vars(game), rule), kept)

    def test_the_talk_does_not_change_with_the_rule(self):
        game = Game(1, [1], [2], [[ONE]], [[[[ZERO, ONE]]]] * 2)
        rule = [[[ONE, ZERO]]]
        talk, _ = direct(game, rule)
        rule[0][0][0] = ZERO
        self.assertEqual(talk.chances, [[[A]]])


if __name__ == "__main__":
    unittest.main()
