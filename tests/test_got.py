import copy
import unittest

from games import pair, random_game, random_number, source
from talking import plain_got, plain_rule, random_plans, random_talk, talk_of
from talkmost.game import Game
from talkmost.got import got_kind_total, got_total
from talkmost.talks import Talk

ZERO, ONE, HALF = (0, 1), (1, 1), (1, 2)
A, B, H = [ONE, ZERO], [ZERO, ONE], [HALF, HALF]


class GotTest(unittest.TestCase):
    def test_by_hand(self):
        # The hearer tells its kind, and is told the state if it is kind 1, with a chance of 3/4.
        game = Game(2, [2], [2], [[ONE, HALF], [ONE, (2, 1)]], [
            [[[ZERO, ONE], [ZERO, ONE]]] * 2, [[[ONE, ZERO], [ONE, ZERO]], [[ZERO, ONE], [ZERO, (3, 1)]]],
        ])
        talk = Talk(1, [[2]], [[2]], [[[A, [(3, 4), (1, 4)]], [A, [(1, 4), (3, 4)]]]])
        plans = [([[[A]], [[B]]], [[A, B, A, B], [A, B, A, B]])]
        self.assertEqual(got_total(game, talk, plans, 0), (13, 8))
        self.assertEqual(got_kind_total(game, talk, plans, 0, 0), ONE)
        self.assertEqual(got_kind_total(game, talk, plans, 0, 1), (39, 8))
        self.assertEqual(got_total(game, talk, plans, 1), (47, 8))

    def test_without_rounds(self):
        game = Game(1, [1, 2], [2, 1], [[ONE, (3, 1)]], [
            [[[ONE, (5, 1)], [ONE, (2, 1)]]], [[[ZERO, ONE], [ONE, ZERO]]], [[[ONE, ONE], [(7, 1), ZERO]]],
        ])
        talk = Talk(2, [], [], [])
        plans = [([[]], [[[(1, 4), (3, 4)]]]), ([[], []], [[[ONE]], [[ONE]]])]
        self.assertEqual(got_total(game, talk, plans, 0), (37, 4))
        self.assertEqual(got_total(game, talk, plans, 1), (3, 2))
        self.assertEqual(got_kind_total(game, talk, plans, 1, 0), ONE)
        self.assertEqual(got_kind_total(game, talk, plans, 1, 1), (21, 4))

    def check(self, game, talk, plans):
        kept = copy.deepcopy((vars(game), vars(talk), plans))
        rule = plain_rule(game, talk, plans)
        for who in range(len(game.kinds) + 1):
            self.assertEqual(got_total(game, talk, plans, who), pair(plain_got(game, rule, who)))
        for h, many in enumerate(game.kinds):
            for i in range(many):
                wanted = pair(plain_got(game, rule, h + 1, h, i))
                self.assertEqual(got_kind_total(game, talk, plans, h, i), wanted)
        self.assertEqual((vars(game), vars(talk), plans), kept)

    def test_against_sums_over_histories(self):
        numbers = source(51)
        for n in range(24):
            game = random_game(numbers)
            talk = random_talk(numbers, game, n % 4, 24)
            self.check(game, talk, random_plans(numbers, game, talk))

    def test_256_histories_of_three_hearers(self):
        numbers = source(52)
        pays = [[[[random_number(numbers, -4, 4) for _ in range(2)] for _ in range(2)]] for _ in range(4)]
        game = Game(1, [1, 2, 1], [1, 1, 2], [[ONE, HALF]], pays)
        talk = talk_of(numbers, game, [[2, 1, 2], [1, 2, 1]], [[1, 2, 1], [2, 2, 1]])
        self.check(game, talk, random_plans(numbers, game, talk))
        talk = talk_of(numbers, game, [[2, 1, 2], [1, 2, 1]], [[1, 2, 2], [2, 2, 2]])
        self.check(game, talk, random_plans(numbers, game, talk))


if __name__ == "__main__":
    unittest.main()
