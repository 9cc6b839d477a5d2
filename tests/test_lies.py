import copy
import unittest
from fractions import Fraction
from itertools import product

from games import count, pair, random_chances, random_game, random_rule, source
from talking import all_rows, random_sure, spot
from talkmost.game import Game
from talkmost.lies import best_lie, gaining_lie, honest, lie_total, mixed_lie_total, told_total
from talkmost.means import kind_total

ZERO, ONE, TWO, HALF = (0, 1), (1, 1), (2, 1), (1, 2)
A, B = [ONE, ZERO], [ZERO, ONE]


def plain_part(game, rule, h, i, said, told, act):
    """The part of a telling, by Python's fractions."""
    part = Fraction(0)
    for s in range(game.states):
        for k, kinds in enumerate(all_rows(game.kinds)):
            if kinds[h] != i:
                continue
            drawn = rule[s][spot(game.kinds, kinds[:h] + (said,) + kinds[h + 1:])]
            for a, acts in enumerate(all_rows(game.acts)):
                if acts[h] == told:
                    done = spot(game.acts, acts[:h] + (act,) + acts[h + 1:])
                    part += (Fraction(*game.weights[s][k]) * Fraction(*drawn[a])
                             * Fraction(*game.pays[h + 1][s][k][done]))
    return part


def plain_lie(game, rule, h, i, said, done):
    return sum([plain_part(game, rule, h, i, said, told, act) for told, act in enumerate(done)])


def all_lies(game):
    for h, many in enumerate(game.kinds):
        for i, said in product(range(many), repeat=2):
            yield h, i, said


def all_done(game, h):
    return [list(done) for done in product(range(game.acts[h]), repeat=game.acts[h])]


def games_and_rules(seed, many):
    """Random games, with weights of 0 among theirs, and rules, some of them sure."""
    numbers = source(seed)
    for n in range(many):
        game = random_game(numbers)
        if n % 3 == 0:
            rule = [
                [random_sure(numbers, count(game.acts)) for _ in range(count(game.kinds))]
                for _ in range(game.states)
            ]
        else:
            rule = random_rule(numbers, game)
        yield game, rule


def teller_game(pays):
    """One state, and one hearer with two kinds and two acts: pays[k][a] for the hearer."""
    return Game(1, [2], [2], [[ONE, ONE]], [[[[ZERO, ZERO]] * 2], [pays]])


class PartsTest(unittest.TestCase):
    def test_one_hearer(self):
        game = Game(2, [2], [2], [[(3, 1), ONE], [HALF, ONE]],
                    [[[[ZERO] * 2] * 2] * 2, [[[ONE, TWO], [ZERO, ONE]], [[(-4, 1), ONE], [ONE, ONE]]]])
        rule = [[A, [HALF, HALF]], [B, [(1, 4), (3, 4)]]]
        self.assertEqual(told_total(game, rule, 0, 0, 0, 0, 0), (3, 1))
        self.assertEqual(told_total(game, rule, 0, 0, 0, 0, 1), (6, 1))
        self.assertEqual(told_total(game, rule, 0, 0, 0, 1, 0), (-2, 1))
        self.assertEqual(told_total(game, rule, 0, 0, 1, 0, 0), ONE)
        self.assertEqual(told_total(game, rule, 0, 0, 1, 0, 1), (25, 8))
        self.assertEqual(told_total(game, rule, 0, 0, 1, 1, 1), (27, 8))
        self.assertEqual(lie_total(game, rule, 0, 0, 1, [1, 1]), (13, 2))
        self.assertEqual(lie_total(game, rule, 0, 0, 1, [0, 1]), (35, 8))
        self.assertEqual(lie_total(game, rule, 0, 1, 0, [1, 0]), TWO)

    def test_several_hearers_against_plain_sums(self):
        for game, rule in games_and_rules(11, 40):
            kept = copy.deepcopy((vars(game), rule))
            for h, i, said in all_lies(game):
                for told, act in product(range(game.acts[h]), repeat=2):
                    wanted = plain_part(game, rule, h, i, said, told, act)
                    self.assertEqual(told_total(game, rule, h, i, said, told, act), pair(wanted))
            self.assertEqual((vars(game), rule), kept)

    def test_lies_get_the_sum_of_their_parts(self):
        for game, rule in games_and_rules(12, 20):
            for h, i, said in all_lies(game):
                for done in all_done(game, h):
                    wanted = plain_lie(game, rule, h, i, said, done)
                    self.assertEqual(lie_total(game, rule, h, i, said, done), pair(wanted))

    def test_the_truth_gets_the_total_of_the_kind(self):
        for game, rule in games_and_rules(13, 30):
            for h, many in enumerate(game.kinds):
                for i in range(many):
                    told = list(range(game.acts[h]))
                    self.assertEqual(
                        lie_total(game, rule, h, i, i, told), kind_total(game, rule, h, i))

    def test_no_weight(self):
        game = Game(1, [2], [2], [[ZERO, ONE]], [[[[ONE] * 2] * 2]] * 2)
        rule = [[A, B]]
        self.assertEqual(lie_total(game, rule, 0, 0, 1, [0, 1]), ZERO)
        self.assertEqual(lie_total(game, rule, 0, 1, 0, [0, 1]), ONE)


class BestLieTest(unittest.TestCase):
    def test_the_first_of_equal_acts(self):
        game = Game(1, [1], [3], [[ONE]], [[[[ZERO] * 3]], [[[ONE, TWO, TWO]]]])
        self.assertEqual(best_lie(game, [[[ZERO, ONE, ZERO]]], 0, 0, 0), ([0, 1, 0], TWO))
        self.assertEqual(best_lie(game, [[[ZERO, ZERO, ONE]]], 0, 0, 0), ([0, 0, 1], TWO))

    def test_the_greatest_of_all_lies(self):
        for game, rule in games_and_rules(14, 40):
            kept = copy.deepcopy((vars(game), rule))
            for h, i, said in all_lies(game):
                got = [plain_lie(game, rule, h, i, said, done) for done in all_done(game, h)]
                done = all_done(game, h)[got.index(max(got))]
                self.assertEqual(best_lie(game, rule, h, i, said), (done, pair(max(got))))
            self.assertEqual((vars(game), rule), kept)


class GainingTest(unittest.TestCase):
    def first(self, game, rule):
        """The first lie that gains, of all that there are."""
        for h, i, said in all_lies(game):
            got = [plain_lie(game, rule, h, i, said, done) for done in all_done(game, h)]
            true = plain_lie(game, rule, h, i, i, range(game.acts[h]))
            if max(got) > true:
                return (h, i, said, all_done(game, h)[got.index(max(got))], pair(max(got) - true))
        return None

    def test_against_all_lies(self):
        found = 0
        for game, rule in games_and_rules(15, 60):
            kept = copy.deepcopy((vars(game), rule))
            wanted = self.first(game, rule)
            self.assertEqual(gaining_lie(game, rule), wanted)
            self.assertIs(honest(game, rule), wanted is None)
            self.assertEqual((vars(game), rule), kept)
            found += wanted is None
        self.assertGreater(found, 0)

    def test_an_honest_rule(self):
        game = teller_game([[ONE, ZERO], [ZERO, ONE]])
        self.assertIsNone(gaining_lie(game, [[A, B]]))
        self.assertIs(honest(game, [[A, B]]), True)

    def test_saying_the_other_kind(self):
        game = teller_game([[ONE, ZERO], [ONE, (-1, 1)]])
        # Kind 1 does not like its own act, which it does whatever it says, unless it disobeys.
        self.assertEqual(gaining_lie(game, [[A, B]]), (0, 1, 0, [0, 0], TWO))

    def test_disobeying_comes_first_if_the_true_kind_is_first(self):
        game = teller_game([[ONE, TWO], [ZERO, ONE]])
        self.assertEqual(gaining_lie(game, [[A, B]]), (0, 0, 0, [1, 0], ONE))
        self.assertIs(honest(game, [[A, B]]), False)

    def test_the_first_hearer(self):
        pays = [[[ZERO, ZERO, ZERO, ZERO]]]
        game = Game(1, [1, 1], [2, 2], [[ONE]], pays + [[[[ZERO, ONE, ZERO, ONE]]], [[[ZERO, ONE, ZERO, ONE]]]])
        self.assertEqual(gaining_lie(game, [[[ONE, ZERO, ZERO, ZERO]]]), (1, 0, 0, [1, 0], ONE))

    def test_a_rule_that_does_not_heed_what_is_said(self):
        game = teller_game([[ONE, ZERO], [ONE, ONE]])
        self.assertIs(honest(game, [[A, A]]), True)
        self.assertIsNone(gaining_lie(game, [[A, A]]))
        self.assertIs(honest(game, [[B, B]]), False)
        self.assertEqual(gaining_lie(game, [[B, B]]), (0, 0, 0, [0, 0], ONE))

    def test_without_weight_no_lie_gains(self):
        game = Game(1, [1], [2], [[ZERO]], [[[[ZERO, ONE]]]] * 2)
        self.assertIs(honest(game, [[A]]), True)

    def test_a_gain_however_small(self):
        small = (1, 10 ** 60)
        game = teller_game([[ZERO, small], [ZERO, ZERO]])
        self.assertEqual(gaining_lie(game, [[A, A]]), (0, 0, 0, [1, 0], small))


class MixedLieTest(unittest.TestCase):
    def test_for_sure_it_is_the_lie(self):
        for game, rule in games_and_rules(16, 15):
            for h, i, said in all_lies(game):
                for done in all_done(game, h):
                    says = [ONE if n == said else ZERO for n in range(game.kinds[h])]
                    acts = [[ONE if n == act else ZERO for n in range(game.acts[h])] for act in done]
                    other = [[ONE] + [ZERO] * (game.acts[h] - 1)] * game.acts[h]
                    does = [acts if n == said else other for n in range(game.kinds[h])]
                    self.assertEqual(
                        mixed_lie_total(game, rule, h, i, says, does),
                        lie_total(game, rule, h, i, said, done))

    def test_other_chances(self):
        numbers = source(17)
        for game, rule in games_and_rules(18, 30):
            for h, i, said in all_lies(game):
                many, acts = game.kinds[h], game.acts[h]
                says = random_chances(numbers, many)
                does = [[random_chances(numbers, acts) for _ in range(acts)] for _ in range(many)]
                wanted = Fraction(0)
                for say, told, act in product(range(many), range(acts), range(acts)):
                    chance = Fraction(*says[say]) * Fraction(*does[say][told][act])
                    wanted += chance * plain_part(game, rule, h, i, say, told, act)
                kept = copy.deepcopy((vars(game), rule, says, does))
                self.assertEqual(mixed_lie_total(game, rule, h, i, says, does), pair(wanted))
                self.assertEqual((vars(game), rule, says, does), kept)
                best = max([Fraction(*best_lie(game, rule, h, i, say)[1]) for say in range(many)])
                self.assertLessEqual(wanted, best)


if __name__ == "__main__":
    unittest.main()
