import copy
import unittest
from fractions import Fraction

from games import pair, random_game, source
from talking import (
    all_rows, plain_chance, plain_histories, plain_tellings, random_plan, random_plans, random_talk,
)
from talkmost.game import Game
from talkmost.plans import are_plans, history_chance, telling_chance, with_plan
from talkmost.talks import Talk

ZERO, ONE, HALF = (0, 1), (1, 1), (1, 2)
A, B, H = [ONE, ZERO], [ZERO, ONE], [HALF, HALF]


def small():
    """Two hearers, two rounds in which hearer 0 reports and hearer 1 is told something, and plans."""
    game = Game(1, [2, 1], [2, 2], [[ONE, ONE]], [[[[ZERO] * 4] * 2]] * 3)
    chances = [[[A, H]], [[B, H, A, [(1, 3), (2, 3)]] * 2]]
    talk = Talk(2, [[2, 1], [2, 1]], [[1, 2], [1, 2]], chances)
    plans = [
        ([[[A], [A, H]], [[H], [B, [(1, 4), (3, 4)]]]], [[A, B, H, A], [B, B, H, A]]),
        ([[[[ONE]], [[ONE], [ONE]]]], [[A, B, H, H]]),
    ]
    return game, talk, plans


class ArePlansTest(unittest.TestCase):
    def test_plans(self):
        game, talk, plans = small()
        kept = copy.deepcopy((vars(game), vars(talk), plans))
        self.assertIs(are_plans(game, talk, plans), True)
        self.assertEqual((vars(game), vars(talk), plans), kept)

    def test_random_plans(self):
        numbers = source(41)
        for n in range(40):
            game = random_game(numbers)
            talk = random_talk(numbers, game, n % 4)
            self.assertIs(are_plans(game, talk, random_plans(numbers, game, talk)), True)

    def test_without_rounds(self):
        game = Game(1, [2], [2], [[ONE, ONE]], [[[[ZERO] * 2] * 2]] * 2)
        talk = Talk(1, [], [], [])
        self.assertIs(are_plans(game, talk, [([[], []], [[A], [H]])]), True)
        self.assertIs(are_plans(game, talk, [([[], []], [[A], []])]), False)
        self.assertIs(are_plans(game, talk, [([[], []], [[A], [A, A]])]), False)
        self.assertIs(are_plans(game, talk, [([[], [[[ONE]]]], [[A], [A]])]), False)
        self.assertIs(are_plans(game, talk, [([[]], [[A], [A]])]), False)

    def wrong(self, change):
        game, talk, plans = small()
        change(plans)
        self.assertIs(are_plans(game, talk, plans), False)

    def test_chances_moved_or_below_0(self):
        for chances in ([HALF, ZERO], [ONE, HALF], [(3, 2), (-1, 2)], [(-1, 3), (4, 3)], [ZERO, ZERO]):
            self.wrong(lambda plans: plans[0][0][0][0].__setitem__(0, chances))
            self.wrong(lambda plans: plans[0][0][1][1].__setitem__(1, chances))
            self.wrong(lambda plans: plans[0][1][1].__setitem__(3, chances))
            self.wrong(lambda plans: plans[1][1][0].__setitem__(0, chances))
        self.wrong(lambda plans: plans[1][0][0][1].__setitem__(1, [HALF]))

    def test_a_chance_too_few_or_too_many(self):
        for chances in ([ONE], [ONE, ZERO, ZERO], []):
            self.wrong(lambda plans: plans[0][0][1][0].__setitem__(0, chances))
            self.wrong(lambda plans: plans[0][0][0][1].__setitem__(1, chances))
            self.wrong(lambda plans: plans[0][1][0].__setitem__(3, chances))
            self.wrong(lambda plans: plans[1][1][0].__setitem__(2, chances))
        self.wrong(lambda plans: plans[1][0][0][0].__setitem__(0, [ONE, ZERO]))

    def test_an_own_history_too_few_or_too_many(self):
        self.wrong(lambda plans: plans[0][0][0][0].append(A))
        self.wrong(lambda plans: plans[0][0][0][0].pop())
        self.wrong(lambda plans: plans[0][0][1][1].append(A))
        self.wrong(lambda plans: plans[1][0][0][1].pop())
        self.wrong(lambda plans: plans[0][1][0].pop())
        self.wrong(lambda plans: plans[1][1][0].append(A))

    def test_a_kind_too_few_or_too_many(self):
        self.wrong(lambda plans: plans[0][0].pop())
        self.wrong(lambda plans: plans[0][1].pop())
        self.wrong(lambda plans: plans[1][0].append(plans[1][0][0]))
        self.wrong(lambda plans: plans[1][1].append(plans[1][1][0]))
        self.wrong(lambda plans: plans[1][0].pop())
        self.wrong(lambda plans: plans[1][1].pop())

    def test_a_round_too_few_or_too_many(self):
        self.wrong(lambda plans: plans[0][0][0].pop())
        self.wrong(lambda plans: plans[1][0][0].pop())
        self.wrong(lambda plans: plans[0][0][1].append([A] * 8))
        self.wrong(lambda plans: plans[0][0][1].clear())

    def test_a_hearer_too_few_or_too_many(self):
        self.wrong(lambda plans: plans.pop())
        self.wrong(lambda plans: plans.append(plans[1]))
        self.wrong(lambda plans: plans.clear())
        self.wrong(lambda plans: plans.reverse())

    def test_a_plan_that_lacks_a_part(self):
        self.wrong(lambda plans: plans.__setitem__(0, plans[0][:1]))
        self.wrong(lambda plans: plans.__setitem__(1, plans[1] + ([],)))


class WithPlanTest(unittest.TestCase):
    def test_one_kind_changes(self):
        game, talk, plans = small()
        plan = ([[B], [H, H]], [B, B, B, B])
        kept = copy.deepcopy((plans, plan))
        self.assertEqual(with_plan(plans, 0, 1, plan), [
            ([[[A], [A, H]], [[B], [H, H]]], [[A, B, H, A], [B, B, B, B]]), kept[0][1],
        ])
        self.assertEqual((plans, plan), kept)

    def test_random_plans(self):
        numbers = source(42)
        for n in range(24):
            game = random_game(numbers)
            talk = random_talk(numbers, game, n % 4)
            plans = random_plans(numbers, game, talk)
            for h, many in enumerate(game.kinds):
                for i in range(many):
                    plan = random_plan(numbers, game, talk, h)
                    kept = copy.deepcopy((plans, plan))
                    changed = with_plan(plans, h, i, plan)
                    self.assertEqual((plans, plan), kept)
                    self.assertIs(are_plans(game, talk, changed), True)
                    for other, kinds in enumerate(game.kinds):
                        self.assertEqual(len(changed[other]), 2)
                        for kind in range(kinds):
                            for part in range(2):
                                same = (other, kind) != (h, i)
                                wanted = plans[other][part][kind] if same else plan[part]
                                self.assertEqual(changed[other][part][kind], wanted)


class ChancesTest(unittest.TestCase):
    def test_by_hand(self):
        game, talk, plans = small()
        # Hearer 0 reports 1, hearer 1 is told 1; then again 1 and 1.
        history = [1, 0, 0, 1, 1, 0, 0, 1]
        self.assertEqual(telling_chance(talk, 0, history), (1, 3))
        self.assertEqual(history_chance(talk, plans, 0, [1, 0], history), (1, 8))
        self.assertEqual(history_chance(talk, plans, 0, [0, 0], history), ZERO)
        history = [0, 0, 0, 0, 0, 0, 0, 1]
        self.assertEqual(telling_chance(talk, 0, history), ONE)
        self.assertEqual(history_chance(talk, plans, 0, [0, 0], history), ONE)
        self.assertEqual(history_chance(talk, plans, 0, [1, 0], history), ZERO)

    def test_without_rounds(self):
        talk = Talk(1, [], [], [])
        self.assertEqual(telling_chance(talk, 0, []), ONE)
        self.assertEqual(history_chance(talk, [([[]], [[A]])], 0, [0], []), ONE)

    def test_against_products(self):
        numbers = source(43)
        for n in range(24):
            game = random_game(numbers)
            talk = random_talk(numbers, game, n % 4)
            plans = random_plans(numbers, game, talk)
            kept = copy.deepcopy((vars(talk), plans))
            for s in range(game.states):
                for history in plain_histories(talk):
                    told = telling_chance(talk, s, list(history))
                    self.assertEqual(told, pair(plain_tellings(talk, s, history)))
                for kinds in all_rows(game.kinds):
                    self.world(talk, plans, s, kinds)
            self.assertEqual((vars(talk), plans), kept)

    def world(self, talk, plans, s, kinds):
        chances = []
        for history in plain_histories(talk):
            chance = history_chance(talk, plans, s, list(kinds), list(history))
            self.assertEqual(chance, pair(plain_chance(talk, plans, s, kinds, history)))
            chances.append(Fraction(*chance))
        self.assertEqual(sum(chances), 1)


if __name__ == "__main__":
    unittest.main()
