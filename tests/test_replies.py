import copy
import unittest
from fractions import Fraction
from itertools import product

from games import pair, random_game, random_number, random_rule, source
from talking import (
    own_before, plain_values, random_plan, random_plans, random_sure, random_talk, spot,
)
from talkmost.coming import direct
from talkmost.game import Game
from talkmost.got import got_kind_total
from talkmost.lies import best_lie, honest
from talkmost.plans import are_plans, with_plan
from talkmost.ratio import sub
from talkmost.replies import end_values, gaining_plan, judge_plans, reply
from talkmost.rules import is_rule
from talkmost.talks import Talk

ZERO, ONE, TWO, HALF = (0, 1), (1, 1), (2, 1), (1, 2)
A, B, H = [ONE, ZERO], [ZERO, ONE], [HALF, HALF]


def unit_list(at, many):
    return [ONE if n == at else ZERO for n in range(many)]


def plain_reply(talk, h, values):
    """The best total and the reply, from the values at the end, by own histories as tuples."""
    rounds = len(talk.reports)
    acts = [unit_list(by_acts.index(max(by_acts)), len(by_acts)) for by_acts in values]
    reports = [[None] * len(list(own_rows(talk, h, r))) for r in range(rounds)]

    def best(own, r):
        if r == rounds:
            return max(values[spot(own_before(talk, h, r), own)])
        sums = [
            sum([best(own + (report, telling), r + 1) for telling in range(talk.tellings[r][h])])
            for report in range(talk.reports[r][h])
        ]
        reports[r][spot(own_before(talk, h, r), own)] = unit_list(sums.index(max(sums)), len(sums))
        return max(sums)

    return best((), 0), (reports, acts)


def own_rows(talk, h, r):
    return product(*[range(bound) for bound in own_before(talk, h, r)])


def sure_plans(game, talk, h):
    """All plans of a kind without chances."""
    spots = [talk.reports[r][h] for r in range(len(talk.reports)) for _ in own_rows(talk, h, r)]
    ends = len(list(own_rows(talk, h, len(talk.reports))))
    for chosen in product(*[range(many) for many in spots + [game.acts[h]] * ends]):
        left, reports = list(zip(chosen, spots)), []
        for r in range(len(talk.reports)):
            many = len(list(own_rows(talk, h, r)))
            reports.append([unit_list(at, bound) for at, bound in left[:many]])
            left = left[many:]
        yield (reports, [unit_list(at, game.acts[h]) for at in chosen[len(spots):]])


def even_game(numbers):
    """A game in which many amounts are alike, so that many acts are equally good."""
    kinds, acts = numbers.choice([([2], [2]), ([1, 2], [2, 2]), ([2, 1], [3, 1]), ([1], [3])])
    places = [len(list(product(*[range(many) for many in counts]))) for counts in (kinds, acts)]
    pays = [
        [[[random_number(numbers, 0, 1) for _ in range(places[1])] for _ in range(places[0])]
         for _ in range(2)]
        for _ in range(len(kinds) + 1)
    ]
    return Game(2, kinds, acts, [[numbers.choice([ZERO, ONE])] * places[0] for _ in range(2)], pays)


def sure_parts(numbers, nested):
    """The same lists, of chances that are sure."""
    if isinstance(nested[0], tuple):
        return random_sure(numbers, len(nested))
    return [sure_parts(numbers, inner) if inner else [] for inner in nested]


def examples(seed, many, most=24):
    numbers = source(seed)
    for n in range(many):
        game = random_game(numbers) if n % 2 else even_game(numbers)
        talk = random_talk(numbers, game, n // 2 % 4, most)
        plans = random_plans(numbers, game, talk)
        if n % 4 == 0:
            plans = [tuple(sure_parts(numbers, part) for part in plan) for plan in plans]
        yield game, talk, plans


def kinds_of(game):
    return [(h, i) for h, many in enumerate(game.kinds) for i in range(many)]


class EndValuesTest(unittest.TestCase):
    def test_by_hand(self):
        game = Game(2, [1], [2], [[ONE], [TWO]], [[[[ZERO] * 2]] * 2, [[[ONE, ZERO]], [[ZERO, (3, 1)]]]])
        talk = Talk(1, [[2]], [[2]], [[[A, H], [[(1, 3), (2, 3)], H]]])
        plans = [([[[B]]], [[A, A, A, A]])]
        self.assertEqual(
            end_values(game, talk, plans, 0, 0), [[ONE, TWO], [ZERO, (4, 1)], [HALF, (3, 1)], [HALF, (3, 1)]])

    def test_without_rounds(self):
        game = Game(1, [2], [2], [[ONE, TWO]], [[[[ZERO] * 2] * 2], [[[ONE, ZERO], [ONE, (3, 1)]]]])
        talk = Talk(1, [], [], [])
        plans = [([[], []], [[A], [A]])]
        self.assertEqual(end_values(game, talk, plans, 0, 0), [[ONE, ZERO]])
        self.assertEqual(end_values(game, talk, plans, 0, 1), [[TWO, (6, 1)]])

    def test_against_sums(self):
        for game, talk, plans in examples(81, 32):
            kept = copy.deepcopy((vars(game), vars(talk), plans))
            for h, i in kinds_of(game):
                wanted = [
                    [pair(value) for value in by_acts]
                    for by_acts in plain_values(game, talk, plans, h, i)
                ]
                self.assertEqual(end_values(game, talk, plans, h, i), wanted)
            self.assertEqual((vars(game), vars(talk), plans), kept)


class ReplyTest(unittest.TestCase):
    def test_the_first_best_report_and_act(self):
        for game, talk, plans in examples(82, 48):
            kept = copy.deepcopy((vars(game), vars(talk), plans))
            for h, i in kinds_of(game):
                values = plain_values(game, talk, plans, h, i)
                best, plan = plain_reply(talk, h, values)
                self.assertEqual(reply(game, talk, plans, h, i), (pair(best), plan))
            self.assertEqual((vars(game), vars(talk), plans), kept)

    def test_by_hand_where_all_is_equal(self):
        game = Game(1, [1], [3], [[ONE]], [[[[ZERO] * 3]], [[[ZERO, TWO, TWO]]]])
        talk = Talk(1, [[2]], [[2]], [[[H, A]]])
        plans = [([[[B]]], [[unit_list(0, 3)] * 4])]
        middle = unit_list(1, 3)
        # With report 1 telling 1 never comes, so that all acts are equally good there.
        wanted = (TWO, ([[A]], [middle, middle, middle, unit_list(0, 3)]))
        self.assertEqual(reply(game, talk, plans, 0, 0), wanted)

    def test_it_gets_the_best_total_and_no_plan_gets_more(self):
        numbers = source(83)
        for game, talk, plans in examples(84, 32):
            for h, i in kinds_of(game):
                best, plan = reply(game, talk, plans, h, i)
                with_reply = with_plan(plans, h, i, plan)
                self.assertIs(are_plans(game, talk, with_reply), True)
                self.assertEqual(got_kind_total(game, talk, with_reply, h, i), best)
                for _ in range(6):
                    other = with_plan(plans, h, i, random_plan(numbers, game, talk, h))
                    got = got_kind_total(game, talk, other, h, i)
                    self.assertLessEqual(Fraction(*got), Fraction(*best))

    def test_against_all_sure_plans(self):
        numbers = source(85)
        games = [even_game(numbers) for _ in range(6)] + [random_game(numbers) for _ in range(6)]
        checked = 0
        for game in games:
            for rounds in range(3):
                talk = random_talk(numbers, game, rounds, 8)
                plans = random_plans(numbers, game, talk)
                for h, i in kinds_of(game):
                    ends = len(list(own_rows(talk, h, rounds)))
                    if game.acts[h] ** ends * max([1] + [many[h] for many in talk.reports]) ** 3 > 300:
                        continue
                    got = [
                        Fraction(*got_kind_total(game, talk, with_plan(plans, h, i, plan), h, i))
                        for plan in sure_plans(game, talk, h)
                    ]
                    self.assertEqual(reply(game, talk, plans, h, i)[0], pair(max(got)))
                    checked += 1
        self.assertGreater(checked, 20)

    def test_without_rounds(self):
        game = Game(1, [2], [3], [[ONE, TWO]], [[[[ZERO] * 3] * 2], [[[ONE, ZERO, ONE], [ONE, TWO, TWO]]]])
        talk = Talk(1, [], [], [])
        plans = [([[], []], [[unit_list(1, 3)], [unit_list(0, 3)]])]
        self.assertEqual(reply(game, talk, plans, 0, 0), (ONE, ([], [unit_list(0, 3)])))
        self.assertEqual(reply(game, talk, plans, 0, 1), ((4, 1), ([], [unit_list(1, 3)])))

    def test_totals_below_0(self):
        game = Game(1, [1], [2], [[ONE]], [[[[ZERO] * 2]], [[[(-3, 1), (-2, 1)]]]])
        talk = Talk(1, [], [], [])
        self.assertEqual(reply(game, talk, [([[]], [[A]])], 0, 0), ((-2, 1), ([], [B])))


class GainingPlanTest(unittest.TestCase):
    def first(self, game, talk, plans):
        for h, i in kinds_of(game):
            best, plan = plain_reply(talk, h, plain_values(game, talk, plans, h, i))
            got = Fraction(*got_kind_total(game, talk, plans, h, i))
            if best > got:
                return (h, i, plan, pair(best - got))
        return None

    def settled(self, game, talk, plans):
        """Plans in which kinds reply one after the other, a few times."""
        for h, i in kinds_of(game) * 3:
            plans = with_plan(plans, h, i, reply(game, talk, plans, h, i)[1])
        return plans

    def test_the_first_kind_that_gets_more(self):
        best = 0
        for n, (game, talk, plans) in enumerate(examples(86, 48, 16)):
            if n % 3 == 0:
                plans = self.settled(game, talk, plans)
            kept = copy.deepcopy((vars(game), vars(talk), plans))
            wanted = self.first(game, talk, plans)
            self.assertEqual(gaining_plan(game, talk, plans), wanted)
            self.assertIs(judge_plans(game, talk, plans), wanted is None)
            self.assertEqual((vars(game), vars(talk), plans), kept)
            best += wanted is None
        self.assertGreater(best, 5)
        self.assertLess(best, 43)

    def test_by_hand(self):
        game = Game(1, [1, 2], [1, 2], [[ONE, TWO]], [
            [[[ZERO] * 2] * 2], [[[ZERO] * 2] * 2], [[[ONE, ZERO], [ONE, (5, 2)]]],
        ])
        talk = Talk(2, [], [], [])
        plans = [([[]], [[[ONE]]]), ([[], []], [[A], [H]])]
        self.assertEqual(gaining_plan(game, talk, plans), (1, 1, ([], [B]), (3, 2)))
        self.assertIs(judge_plans(game, talk, plans), False)
        plans[1][1][1] = [B]
        self.assertIsNone(gaining_plan(game, talk, plans))
        self.assertIs(judge_plans(game, talk, plans), True)

    def test_plans_of_the_wrong_length(self):
        game = Game(1, [2], [2], [[ONE, ONE]], [[[[ZERO] * 2] * 2]] * 2)
        talk = Talk(1, [], [], [])
        plans = [([[], []], [[A], [A]])]
        self.assertIs(judge_plans(game, talk, plans), True)
        for wrong in (
            [], plans * 2, [([[]], [[A], [A]])], [([[], []], [[A]])], [([[], []], [[A], [A, A]])],
            [([[], []], [[A], [[ONE]]])], [([[], []], [[A], [[ONE, ONE]]])], [([[], [[A]]], [[A], [A]])],
        ):
            self.assertIs(judge_plans(game, talk, wrong), False)


class DirectTalkTest(unittest.TestCase):
    """The honest plans of the direct talk, beside the lies under the rule."""

    def check(self, game, rule):
        self.assertIs(is_rule(game, rule), True)
        talk, plans = direct(game, rule)
        self.assertIs(judge_plans(game, talk, plans), honest(game, rule))
        for h, i in kinds_of(game):
            got = [Fraction(*best_lie(game, rule, h, i, said)[1]) for said in range(game.kinds[h])]
            self.assertEqual(reply(game, talk, plans, h, i)[0], pair(max(got)))
        return honest(game, rule)

    def test_random_rules(self):
        numbers = source(87)
        found = [self.check(*self.game_and_rule(numbers, n)) for n in range(60)]
        self.assertIn(True, found)
        self.assertIn(False, found)

    def game_and_rule(self, numbers, n):
        game = even_game(numbers) if n % 3 else random_game(numbers)
        return game, random_rule(numbers, game)

    def test_the_gain_is_that_of_the_first_kind(self):
        game = Game(1, [2], [2], [[ONE, ONE]], [[[[ZERO] * 2] * 2], [[[ONE, ZERO], [TWO, ONE]]]])
        rule = [[A, B]]
        talk, plans = direct(game, rule)
        h, i, plan, gain = gaining_plan(game, talk, plans)
        self.assertEqual((h, i, gain), (0, 1, ONE))
        best, same = reply(game, talk, plans, 0, 1)
        self.assertEqual((plan, sub(best, gain)), (same, ONE))


if __name__ == "__main__":
    unittest.main()
