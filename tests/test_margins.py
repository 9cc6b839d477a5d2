import copy
import unittest
from fractions import Fraction

from games import is_lowest, pair, random_aims, random_rule, small_game, source
from talking import all_rows, spot
from talkmost.game import Game
from talkmost.lies import gaining_lie, honest, lie_total
from talkmost.margins import losses, margin, reweighed, wrong_weights
from talkmost.means import kind_total
from talkmost.moving import most
from talkmost.terms import free_terms
from test_lies import all_done, all_lies

ZERO, ONE, TWO, HALF = (0, 1), (1, 1), (2, 1), (1, 2)
A, B = [ONE, ZERO], [ZERO, ONE]
PARTS = [ZERO, (1, 10), HALF, (7, 8), ONE]


def plain_losses(game, rule, lie):
    h, i, said, done = lie
    found = []
    for s in range(game.states):
        for k, kinds in enumerate(all_rows(game.kinds)):
            if kinds[h] != i:
                continue
            told = spot(game.kinds, kinds[:h] + (said,) + kinds[h + 1:])
            loss = Fraction(0)
            for a, acts in enumerate(all_rows(game.acts)):
                other = spot(game.acts, acts[:h] + (done[acts[h]],) + acts[h + 1:])
                loss += Fraction(*rule[s][k][a]) * Fraction(*game.pays[h + 1][s][k][a])
                loss -= Fraction(*rule[s][told][a]) * Fraction(*game.pays[h + 1][s][k][other])
            found.append((s, k, loss))
    return found


def whole_lies(game):
    return [(h, i, said, done) for h, i, said in all_lies(game) for done in all_done(game, h)]


def gain_of(game, rule, lie):
    h, i, said, done = lie
    return Fraction(*lie_total(game, rule, h, i, said, done)) - Fraction(*kind_total(game, rule, h, i))


def plain_margin(game, rule):
    """The least of 1 and the quotients of point 43."""
    least = Fraction(1)
    for lie in whole_lies(game):
        found = [(Fraction(*game.weights[s][k]), loss) for s, k, loss in plain_losses(game, rule, lie)]
        sizes = sum([weight * abs(loss) for weight, loss in found])
        if sizes:
            least = min(least, sum([weight * loss for weight, loss in found]) / sizes)
    return least


def hinting():
    """Two states; the hearer likes act 1 in state 1 only, is told so, and loses more than it gains by doing it."""
    zeros = [[ZERO, ZERO]]
    return Game(2, [1], [2], [[(3, 1)], [ONE]], [[zeros] * 2, [[[TWO, ZERO]], [[ZERO, ONE]]]])


def games_and_rules(seed, many):
    """Random games with rules, many of them honest."""
    numbers = source(seed)
    for n in range(many):
        game = small_game(numbers, 18)
        if n % 3 == 0:
            yield numbers, game, random_rule(numbers, game)
        else:
            yield numbers, game, most(game, free_terms(game), random_aims(numbers, game))[2]


class LossesTest(unittest.TestCase):
    def test_world_by_world(self):
        game = hinting()
        rule = [[A], [A]]
        self.assertEqual(losses(game, rule, (0, 0, 0, [0, 1])), [(0, 0, ZERO), (1, 0, ZERO)])
        self.assertEqual(losses(game, rule, (0, 0, 0, [1, 1])), [(0, 0, TWO), (1, 0, (-1, 1))])
        self.assertEqual(losses(game, [[[HALF, HALF]], [B]], (0, 0, 0, [1, 0])), [(0, 0, ZERO), (1, 0, ONE)])

    def test_saying_another_kind(self):
        game = Game(1, [2, 2], [2, 1], [[ONE] * 4], [
            [[[ZERO] * 2] * 4], [[[ONE, ZERO], [TWO, ZERO], [ZERO, ONE], [ZERO, TWO]]], [[[ZERO] * 2] * 4]])
        rule = [[A, A, B, B]]
        self.assertEqual(losses(game, rule, (0, 0, 1, [0, 1])), [(0, 0, ONE), (0, 1, TWO)])
        self.assertEqual(losses(game, rule, (0, 1, 0, [0, 0])), [(0, 2, ONE), (0, 3, TWO)])
        self.assertEqual(losses(game, rule, (0, 1, 0, [1, 0])), [(0, 2, ZERO), (0, 3, ZERO)])
        self.assertEqual(losses(game, rule, (1, 0, 1, [0])), [(0, 0, ZERO), (0, 2, ZERO)])

    def test_random(self):
        for numbers, game, rule in games_and_rules(261, 30):
            for lie in whole_lies(game):
                kept = copy.deepcopy((vars(game), rule, lie))
                found = losses(game, rule, lie)
                self.assertEqual(found, [(s, k, pair(loss)) for s, k, loss in plain_losses(game, rule, lie)])
                self.assertEqual((vars(game), rule, lie), kept)
                weighed = sum([Fraction(*game.weights[s][k]) * Fraction(*loss) for s, k, loss in found])
                self.assertEqual(weighed, -gain_of(game, rule, lie))


class WeightsTest(unittest.TestCase):
    def test_a_lie_that_loses_in_one_state_and_gains_in_the_other(self):
        game = hinting()
        lie = (0, 0, 0, [1, 1])
        wanted = {ZERO: [[(3, 1)], [ONE]], HALF: [[(3, 2)], [(3, 2)]], ONE: [[ZERO], [TWO]],
                  (1, 3): [[TWO], [(4, 3)]]}
        for part, weights in wanted.items():
            self.assertEqual(wrong_weights(game, [[A], [A]], lie, part), weights)

    def test_where_it_loses_nothing_and_elsewhere_the_weight_stays(self):
        game = Game(1, [2], [2], [[ONE, TWO]], [[[[ZERO] * 2] * 2], [[[ONE, ZERO], [ONE, ZERO]]]])
        self.assertEqual(wrong_weights(game, [[A, A]], (0, 1, 1, [0, 0]), ONE), [[ONE, TWO]])
        self.assertEqual(wrong_weights(game, [[A, A]], (0, 1, 0, [1, 1]), ONE), [[ONE, ZERO]])
        self.assertEqual(wrong_weights(game, [[A, A]], (0, 0, 0, [1, 1]), HALF), [[HALF, TWO]])
        self.assertEqual(wrong_weights(game, [[B, B]], (0, 0, 0, [1, 0]), HALF), [[(3, 2), TWO]])

    def test_reweighed(self):
        game = hinting()
        kept = copy.deepcopy(vars(game))
        weights = [[HALF], [TWO]]
        other = reweighed(game, weights)
        self.assertIsInstance(other, Game)
        self.assertEqual(vars(other), {**kept, "weights": [[HALF], [TWO]]})
        weights[0][0] = ZERO
        weights.pop()
        other.weights[1][0] = ZERO
        other.pays[1][0][0][0] = ZERO
        other.kinds.append(3)
        self.assertEqual(vars(game), kept)
        self.assertEqual(other.weights, [[HALF], [ZERO]])

    def test_random(self):
        for numbers, game, rule in games_and_rules(262, 25):
            for lie in whole_lies(game)[::3]:
                part = numbers.choice(PARTS)
                kept = copy.deepcopy((vars(game), rule, lie))
                weights = wrong_weights(game, rule, lie, part)
                self.assertEqual((vars(game), rule, lie), kept)
                self.assertTrue(is_lowest(weights))
                wanted = [[Fraction(*weight) for weight in by_kinds] for by_kinds in game.weights]
                for s, k, loss in plain_losses(game, rule, lie):
                    sign = (loss > 0) - (loss < 0)
                    wanted[s][k] *= 1 - sign * Fraction(*part)
                self.assertEqual(weights, [[pair(weight) for weight in by_kinds] for by_kinds in wanted])


class MarginTest(unittest.TestCase):
    def test_not_honest(self):
        self.assertIsNone(margin(hinting(), [[B], [A]]))

    def test_no_lie_gains_at_any_part(self):
        self.assertEqual(margin(hinting(), [[A], [B]]), (ONE, None))
        free = Game(1, [2], [2], [[ONE, ONE]], [[[[ONE] * 2] * 2]] * 2)
        self.assertEqual(margin(free, [[A, B]]), (ONE, None))
        weightless = Game(2, [1], [2], [[ZERO], [ZERO]], [[[[ONE, TWO]]] * 2] * 2)
        self.assertEqual(margin(weightless, [[A], [A]]), (ONE, None))

    def test_between(self):
        # To do act 1 loses 2 at weight 3 and gains 1 at weight 1: (6 - 1) / (6 + 1).
        part, lie = margin(hinting(), [[A], [A]])
        self.assertEqual(part, (5, 7))
        self.assertIn(lie, [(0, 0, 0, [1, 0]), (0, 0, 0, [1, 1])])

    def test_nothing_to_spare(self):
        game = reweighed(hinting(), [[HALF], [ONE]])
        part, lie = margin(game, [[A], [A]])
        self.assertEqual(part, ZERO)
        self.assertEqual(lie[:3], (0, 0, 0))
        self.assertEqual(lie[3][0], 1)
        less = wrong_weights(game, [[A], [A]], lie, (1, 1000))
        self.assertFalse(honest(reweighed(game, less), [[A], [A]]))

    def test_random(self):
        found = {"none": 0, "whole": 0, "between": 0}
        for numbers, game, rule in games_and_rules(263, 90):
            kept = copy.deepcopy((vars(game), rule))
            result = margin(game, rule)
            self.assertEqual((vars(game), rule), kept)
            self.assertEqual(result is None, gaining_lie(game, rule) is not None)
            if result is None:
                found["none"] += 1
                continue
            part, lie = result
            self.assertEqual(Fraction(*part), plain_margin(game, rule))
            self.assertTrue(is_lowest(part))
            for other in whole_lies(game):
                worst = reweighed(game, wrong_weights(game, rule, other, part))
                self.assertLessEqual(gain_of(worst, rule, other), 0)
            if part == ONE:
                found["whole"] += 1
                self.assertIsNone(lie)
                continue
            found["between"] += 1
            self.assertIn(lie, whole_lies(game))
            for share in (Fraction(1, 100000), Fraction(1, 2), Fraction(1)):
                above = Fraction(*part) + share * (1 - Fraction(*part))
                worst = reweighed(game, wrong_weights(game, rule, lie, pair(above)))
                self.assertGreater(gain_of(worst, rule, lie), 0)
                self.assertFalse(honest(worst, rule))
        self.assertGreater(min(found.values()), 5)

    def test_a_rule_stands_all_weights_that_are_wrong_by_the_margin(self):
        for numbers, game, rule in games_and_rules(264, 60):
            result = margin(game, rule)
            if result is None:
                continue
            part = Fraction(*result[0])
            for _ in range(5):
                weights = [
                    [pair(Fraction(*weight) * (1 + part * Fraction(numbers.randint(-10, 10), 10)))
                     for weight in by_kinds] for by_kinds in game.weights]
                self.assertTrue(honest(reweighed(game, weights), rule))


if __name__ == "__main__":
    unittest.main()
