import copy
import unittest
from itertools import product

from games import is_lowest, random_rule, small_game, source
from talking import random_plans, random_sure, random_talk
from talkmost.coming import direct, rule_of
from talkmost.game import Game
from talkmost.got import got_kind_total
from talkmost.lies import gaining_lie, honest, lie_total
from talkmost.mimic import answer, mimic
from talkmost.plans import are_plans, with_plan
from talkmost.replies import gaining_plan, judge_plans
from talkmost.talks import Talk

ZERO, ONE, TWO, HALF = (0, 1), (1, 1), (2, 1), (1, 2)
A, B = [ONE, ZERO], [ZERO, ONE]


def talks_and_plans(seed, many):
    """Random games with talks of 0 to 3 rounds and plans, some of them sure."""
    numbers = source(seed)
    for n in range(many):
        game = small_game(numbers)
        talk = random_talk(numbers, game, n % 4)
        plans = random_plans(numbers, game, talk)
        if n % 3 == 0:
            plans = [
                ([[[random_sure(numbers, len(c)) for c in by_own] for by_own in kind] for kind in reports],
                 [[random_sure(numbers, len(c)) for c in by_own] for by_own in acts])
                for reports, acts in plans
            ]
        yield numbers, game, talk, plans


class MimicTest(unittest.TestCase):
    def test_its_own_words(self):
        game = Game(1, [2], [3], [[ONE, ONE]], [[[[ZERO] * 3] * 2]] * 2)
        plans = [([[[A]], [[[HALF, HALF]]]],
                  [[[ONE, ZERO, ZERO]] * 4,
                   [[(1, 6), (1, 3), HALF], [ZERO, ONE, ZERO], [ZERO, ZERO, ONE], [HALF, HALF, ZERO]]])]
        self.assertEqual(
            mimic(game, plans, 0, 1, [2, 2, 0]),
            ([[[HALF, HALF]]], [[HALF, ZERO, HALF], [ZERO, ZERO, ONE], [ONE, ZERO, ZERO], [ZERO, ZERO, ONE]]))
        self.assertEqual(mimic(game, plans, 0, 0, [0, 1, 2]), (plans[0][0][0], plans[0][1][0]))

    def test_it_gets_what_the_lie_gets(self):
        several = set()
        for numbers, game, talk, plans in talks_and_plans(201, 48):
            kept = copy.deepcopy((vars(game), vars(talk), plans))
            rule = rule_of(game, talk, plans)
            for h, kinds in enumerate(game.kinds):
                for i, said in product(range(kinds), repeat=2):
                    done = [numbers.randrange(game.acts[h]) for _ in range(game.acts[h])]
                    plan = mimic(game, plans, h, said, done)
                    others = with_plan(plans, h, i, plan)
                    self.assertTrue(are_plans(game, talk, others))
                    self.assertTrue(is_lowest(plan))
                    self.assertEqual(
                        got_kind_total(game, talk, others, h, i), lie_total(game, rule, h, i, said, done))
            self.assertEqual((vars(game), vars(talk), plans), kept)
            several.add((len(talk.reports), len(game.kinds)))
        self.assertGreaterEqual(len(several), 8)

    def test_no_rounds(self):
        game = Game(1, [2], [2], [[ONE, TWO]], [[[[ZERO] * 2] * 2], [[[ONE, ZERO], [ZERO, ONE]]]])
        plans = [([[], []], [[A], [A]])]
        self.assertEqual(mimic(game, plans, 0, 0, [1, 1]), ([], [B]))
        talk = Talk(1, [], [], [])
        self.assertEqual(answer(game, talk, plans), (0, 1, ([], [B]), TWO))


class AnswerTest(unittest.TestCase):
    def test_against_the_lie(self):
        found = {True: 0, False: 0}
        for _, game, talk, plans in talks_and_plans(202, 60):
            kept = copy.deepcopy((vars(game), vars(talk), plans))
            rule = rule_of(game, talk, plans)
            given = answer(game, talk, plans)
            self.assertEqual((vars(game), vars(talk), plans), kept)
            found[given is None] += 1
            if honest(game, rule):
                self.assertIsNone(given)
                continue
            h, i, said, done, gain = gaining_lie(game, rule)
            self.assertEqual(given, (h, i, mimic(game, plans, h, said, done), gain))
            self.assertFalse(judge_plans(game, talk, plans))
            more = got_kind_total(game, talk, with_plan(plans, h, i, given[2]), h, i)
            own = got_kind_total(game, talk, plans, h, i)
            self.assertEqual((more[0] * own[1] - own[0] * more[1]) * gain[1], gain[0] * more[1] * own[1])
        self.assertGreater(min(found.values()), 2)

    def test_best_plans_come_to_honest_rules(self):
        best = 0
        for _, game, talk, plans in talks_and_plans(203, 60):
            # Kind after kind takes its reply; often this ends at plans that are best.
            for _ in range(25):
                gaining = gaining_plan(game, talk, plans)
                if gaining is None:
                    break
                plans = with_plan(plans, *gaining[:3])
            if judge_plans(game, talk, plans):
                best += 1
                self.assertTrue(honest(game, rule_of(game, talk, plans)))
                self.assertIsNone(answer(game, talk, plans))
        self.assertGreater(best, 20)

    def test_direct_talks(self):
        numbers = source(204)
        for _ in range(40):
            game = small_game(numbers)
            rule = random_rule(numbers, game)
            talk, plans = direct(game, rule)
            self.assertEqual(answer(game, talk, plans) is None, honest(game, rule))


if __name__ == "__main__":
    unittest.main()
