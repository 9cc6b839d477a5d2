import copy
import unittest
from itertools import permutations

from games import random_game, random_number, source
from talking import all_rows, random_plans, random_talk, talk_of
from talkmost.changing import (
    pasted, pasted_plans, renamed, renamed_plans, silent_plans, with_silence,
)
from talkmost.coming import rule_of
from talkmost.game import Game
from talkmost.got import got_kind_total
from talkmost.plans import are_plans, history_chance
from talkmost.ratio import mul
from talkmost.talks import Talk, histories, is_talk

ZERO, ONE, HALF = (0, 1), (1, 1), (1, 2)
A, B, H = [ONE, ZERO], [ZERO, ONE], [HALF, HALF]


def all_kept(game, *talks):
    return copy.deepcopy((vars(game), [vars(part) if isinstance(part, Talk) else part for part in talks]))


def examples(seed, many, rounds, most=24):
    numbers = source(seed)
    for n in range(many):
        game = random_game(numbers)
        talk = random_talk(numbers, game, n % (rounds + 1), most)
        yield game, talk, random_plans(numbers, game, talk)


def small_game(numbers):
    pays = [[[[random_number(numbers, -4, 4) for _ in range(2)] for _ in range(2)]] * 2 for _ in range(3)]
    return Game(2, [2, 1], [2, 1], [[ONE, HALF], [(2, 1), ONE]], pays)


class ChangingTest(unittest.TestCase):
    def alike(self, game, talk, plans, changed, changed_plans):
        """The changed talk and plans are such, and everybody's acts and totals are as before."""
        self.assertIs(is_talk(game, changed), True)
        self.assertIs(are_plans(game, changed, changed_plans), True)
        self.assertEqual(rule_of(game, changed, changed_plans), rule_of(game, talk, plans))
        for h, many in enumerate(game.kinds):
            for i in range(many):
                self.assertEqual(
                    got_kind_total(game, changed, changed_plans, h, i),
                    got_kind_total(game, talk, plans, h, i))

    def check(self, game, talk, plans, changed, changed_plans, moved):
        """All that is promised of a changed talk; `moved` gives what a history becomes."""
        self.alike(game, talk, plans, changed, changed_plans)
        for s in range(game.states):
            for kinds in all_rows(game.kinds):
                for history in histories(talk):
                    self.assertEqual(
                        history_chance(changed, changed_plans, s, list(kinds), moved(history)),
                        history_chance(talk, plans, s, list(kinds), history))


class SilenceTest(ChangingTest):
    def test_by_hand(self):
        game = Game(2, [1], [2], [[ONE], [ONE]], [[[[ZERO, ONE]]] * 2] * 2)
        talk = Talk(1, [[2]], [[2]], [[[A, B], [H, H]]])
        plans = [([[[[HALF, HALF]]]], [[A, B, H, A]])]
        first = with_silence(game, talk, 0)
        self.assertEqual((first.reports, first.tellings), ([[1], [2]], [[1], [2]]))
        self.assertEqual(first.chances, [[[[ONE]], [[ONE]]], [[A, B], [H, H]]])
        self.assertEqual(silent_plans(talk, plans, 0), [([[[[ONE]], [H]]], [[A, B, H, A]])])
        last = with_silence(game, talk, 1)
        self.assertEqual((last.hearers, last.reports, last.tellings), (1, [[2], [1]], [[2], [1]]))
        self.assertEqual(last.chances, [[[A, B], [H, H]], [[[ONE]] * 4] * 2])
        self.assertEqual(silent_plans(talk, plans, 1), [([[[H], [[ONE]] * 4]], [[A, B, H, A]])])

    def test_before_each_round_and_behind_the_last(self):
        for game, talk, plans in examples(71, 24, 2):
            for r in range(len(talk.reports) + 1):
                kept = all_kept(game, talk, plans)
                changed = with_silence(game, talk, r)
                changed_plans = silent_plans(talk, plans, r)
                self.assertEqual(all_kept(game, talk, plans), kept)
                self.assertEqual(len(changed.reports), len(talk.reports) + 1)
                silent = [1] * talk.hearers
                self.assertEqual((changed.reports[r], changed.tellings[r]), (silent, silent))
                many = 2 * talk.hearers

                def moved(history):
                    return history[:many * r] + [0] * many + history[many * r:]

                self.check(game, talk, plans, changed, changed_plans, moved)

    def test_a_talk_without_rounds(self):
        game = Game(3, [2, 1], [2, 1], [[ONE, HALF]] * 3, [[[[ZERO, ONE]] * 2] * 3] * 3)
        talk, plans = Talk(2, [], [], []), [([[], []], [[A], [H]]), ([[]], [[[ONE]]])]
        changed = with_silence(game, talk, 0)
        self.assertEqual((changed.reports, changed.tellings), ([[1, 1]], [[1, 1]]))
        self.assertEqual(changed.chances, [[[[ONE]]] * 3])
        silent = silent_plans(talk, plans, 0)
        self.assertEqual(
            silent, [([[[[ONE]]], [[[ONE]]]], [[A], [H]]), ([[[[ONE]]]], [[[ONE]]])])
        self.check(game, talk, plans, changed, silent, lambda history: [0, 0, 0, 0])


class RenamedTest(ChangingTest):
    def test_by_hand(self):
        talk = Talk(1, [[1], [1]], [[3], [2]], [[[[HALF, (1, 3), (1, 6)]]], [[A, B, H]]])
        changed = renamed(talk, 0, 0, [2, 0, 1])
        self.assertEqual((changed.hearers, changed.reports, changed.tellings), (1, [[1], [1]], [[3], [2]]))
        self.assertEqual(changed.chances, [[[[(1, 3), (1, 6), HALF]]], [[B, H, A]]])
        plans = [([[[[ONE]], [[ONE]] * 3]], [[A, A, A, B, B, B]])]
        self.assertEqual(
            renamed_plans(talk, plans, 0, 0, [2, 0, 1]), [([[[[ONE]], [[ONE]] * 3]], [[A, B, B, B, A, A]])])
        self.assertEqual(renamed(talk, 0, 1, [1, 0]).chances, [talk.chances[0], [[B, A, H]]])
        self.assertEqual(
            renamed_plans(talk, plans, 0, 1, [1, 0]), [([[[[ONE]], [[ONE]] * 3]], [[A, A, B, A, B, B]])])

    def renaming(self, game, talk, plans, h, r, order):
        kept = all_kept(game, talk, plans, order)
        changed = renamed(talk, h, r, order)
        changed_plans = renamed_plans(talk, plans, h, r, order)
        self.assertEqual(all_kept(game, talk, plans, order), kept)
        at = (2 * r + 1) * talk.hearers + h

        def moved(history):
            return history[:at] + [order[history[at]]] + history[at + 1:]

        self.check(game, talk, plans, changed, changed_plans, moved)
        back = [order.index(t) for t in range(len(order))]
        self.assertEqual(vars(renamed(changed, h, r, back)), vars(talk))
        self.assertEqual(renamed_plans(changed, changed_plans, h, r, back), plans)
        for other in range(talk.hearers):
            if other != h:
                self.assertEqual(changed_plans[other], plans[other])

    def test_each_hearer_and_round(self):
        numbers = source(72)
        for game, talk, plans in examples(73, 20, 3):
            for r, tellings in enumerate(talk.tellings):
                for h, many in enumerate(tellings):
                    orders = [list(order) for order in permutations(range(many))]
                    self.renaming(game, talk, plans, h, r, numbers.choice(orders))

    def test_orders_that_are_not_their_own_inverse(self):
        numbers = source(74)
        game = small_game(numbers)
        for reports, tellings in (
            ([[1, 2], [2, 1]], [[3, 1], [1, 2]]), ([[1, 1], [1, 1]], [[1, 3], [3, 3]]),
            ([[1, 1], [2, 1], [1, 1]], [[1, 3], [1, 1], [3, 1]]),
        ):
            talk = talk_of(numbers, game, reports, tellings)
            plans = random_plans(numbers, game, talk)
            for r, counts in enumerate(tellings):
                for h, many in enumerate(counts):
                    for order in ([1, 2, 0], [2, 0, 1]) if many == 3 else ():
                        self.renaming(game, talk, plans, h, r, order)


class PastedTest(ChangingTest):
    def test_by_hand(self):
        talk = Talk(1, [[2]], [[1]], [[[[ONE], [ONE]]]])
        other = Talk(1, [[1]], [[2]], [[[H]]])
        plans, other_plans = [([[[A]]], [[A, B]])], [([[[[ONE]]]], [[H, A]])]
        changed = pasted(talk, other)
        self.assertEqual((changed.hearers, changed.reports, changed.tellings), (1, [[2], [1]], [[1], [2]]))
        self.assertEqual(changed.chances, [[[[ONE], [ONE]]], [[H, H]]])
        self.assertEqual(
            pasted_plans(talk, plans, other, other_plans), [([[[A], [[ONE], [ONE]]]], [[A, A, B, B]])])
        turned = pasted(other, talk)
        self.assertEqual((turned.reports, turned.tellings), ([[1], [2]], [[2], [1]]))
        self.assertEqual(turned.chances, [[[H]], [[[ONE]] * 4]])
        self.assertEqual(
            pasted_plans(other, other_plans, talk, plans), [([[[[ONE]], [A, A]]], [[H, H, A, A]])])

    def pasting(self, game, talk, plans, other, other_plans):
        kept = all_kept(game, talk, plans, other, other_plans)
        changed = pasted(talk, other)
        changed_plans = pasted_plans(talk, plans, other, other_plans)
        self.assertEqual(all_kept(game, talk, plans, other, other_plans), kept)
        self.alike(game, talk, plans, changed, changed_plans)
        for s in range(game.states):
            for row in all_rows(game.kinds):
                kinds = list(row)
                for first in histories(talk):
                    chance = history_chance(talk, plans, s, kinds, first)
                    for second in histories(other):
                        self.assertEqual(
                            history_chance(changed, changed_plans, s, kinds, first + second),
                            mul(chance, history_chance(other, other_plans, s, kinds, second)))

    def test_rounds_on_either_side(self):
        numbers = source(75)
        for first in range(4):
            for second in range(4 - first):
                for _ in range(3):
                    game = random_game(numbers)
                    talk, other = [random_talk(numbers, game, many, 12) for many in (first, second)]
                    plans, other_plans = [random_plans(numbers, game, part) for part in (talk, other)]
                    self.pasting(game, talk, plans, other, other_plans)

    def test_behind_a_talk_without_rounds(self):
        numbers = source(76)
        game = small_game(numbers)
        bare = Talk(2, [], [], [])
        talk = random_talk(numbers, game, 2, 24)
        plans, bare_plans = random_plans(numbers, game, talk), random_plans(numbers, game, bare)
        self.assertEqual(vars(pasted(bare, talk)), vars(talk))
        self.assertEqual(vars(pasted(talk, bare)), vars(talk))
        self.assertEqual(pasted_plans(talk, plans, bare, bare_plans), plans)
        self.pasting(game, bare, bare_plans, talk, plans)


if __name__ == "__main__":
    unittest.main()
