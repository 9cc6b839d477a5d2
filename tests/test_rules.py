import copy
import unittest
from fractions import Fraction

from games import pair, random_game, random_rule, source
from talkmost.draws import unit
from talkmost.game import Game
from talkmost.rules import is_rule, mixed

ZERO, ONE, HALF, THIRD = (0, 1), (1, 1), (1, 2), (1, 3)


def small():
    """Two states, one hearer with two kinds and two acts, and a rule of this game."""
    game = Game(2, [2], [2], [[ONE, ONE], [ONE, ONE]], [[[[ZERO, ZERO]] * 2] * 2] * 2)
    rule = [[[HALF, HALF], [ONE, ZERO]], [[THIRD, (2, 3)], [ZERO, ONE]]]
    return game, rule


class IsRuleTest(unittest.TestCase):
    def test_rules(self):
        game, rule = small()
        before = copy.deepcopy((vars(game), rule))
        self.assertIs(is_rule(game, rule), True)
        self.assertEqual((vars(game), rule), before)

    def test_rules_of_random_games(self):
        numbers = source(1)
        for _ in range(40):
            game = random_game(numbers)
            rule = random_rule(numbers, game)
            self.assertIs(is_rule(game, rule), True)
            self.assertIs(is_rule(game, rule + rule[:1]), False)
            self.assertIs(is_rule(game, rule[:-1]), False)

    def wrong(self, change):
        game, rule = small()
        change(rule)
        self.assertIs(is_rule(game, rule), False)

    def test_a_chance_moved(self):
        self.wrong(lambda rule: rule[1][0].__setitem__(0, HALF))
        self.wrong(lambda rule: rule[1][1].__setitem__(0, (1, 10 ** 50)))
        self.wrong(lambda rule: rule[0][1].__setitem__(0, ZERO))

    def test_a_chance_below_0(self):
        self.wrong(lambda rule: rule[0].__setitem__(0, [(3, 2), (-1, 2)]))
        self.wrong(lambda rule: rule[1].__setitem__(1, [(-1, 2), (3, 2)]))

    def test_a_chance_too_few_or_too_many(self):
        self.wrong(lambda rule: rule[0][1].pop())
        self.wrong(lambda rule: rule[1][1].append(ZERO))
        self.wrong(lambda rule: rule[1][1].pop(0))
        self.wrong(lambda rule: rule[0].__setitem__(0, []))

    def test_a_row_of_kinds_too_few_or_too_many(self):
        self.wrong(lambda rule: rule[0].pop())
        self.wrong(lambda rule: rule[1].append([ONE, ZERO]))
        self.wrong(lambda rule: rule.__setitem__(1, []))

    def test_a_state_too_few_or_too_many(self):
        self.wrong(lambda rule: rule.pop())
        self.wrong(lambda rule: rule.append([[ONE, ZERO], [ONE, ZERO]]))
        self.wrong(lambda rule: rule.clear())

    def test_fractions_of_another_form(self):
        self.wrong(lambda rule: rule[0].__setitem__(0, [(2, 4), HALF]))
        self.wrong(lambda rule: rule[0].__setitem__(0, [(-1, -1), ZERO]))
        self.wrong(lambda rule: rule[0].__setitem__(0, [ONE, (0, 0)]))


class MixedTest(unittest.TestCase):
    def test_the_parts_0_and_1(self):
        game, rule = small()
        other = [[unit(0, 2), unit(1, 2)], [unit(1, 2), unit(1, 2)]]
        self.assertEqual(mixed(rule, other, ONE), rule)
        self.assertEqual(mixed(rule, other, ZERO), other)

    def test_a_part_between(self):
        game, rule = small()
        other = [[unit(0, 2), unit(1, 2)], [unit(1, 2), unit(1, 2)]]
        before = copy.deepcopy((rule, other))
        found = mixed(rule, other, THIRD)
        self.assertEqual(found, [
            [[(5, 6), (1, 6)], [THIRD, (2, 3)]], [[(1, 9), (8, 9)], [ZERO, ONE]],
        ])
        self.assertIs(is_rule(game, found), True)
        self.assertEqual((rule, other), before)

    def test_against_the_fractions_of_python(self):
        numbers = source(2)
        for part in (ZERO, ONE, (2, 7), (9, 10)):
            game = random_game(numbers)
            rule, other = random_rule(numbers, game), random_rule(numbers, game)
            found = mixed(rule, other, part)
            self.assertIs(is_rule(game, found), True)
            for s, by_kinds in enumerate(rule):
                for k, chances in enumerate(by_kinds):
                    for a, chance in enumerate(chances):
                        wanted = (Fraction(*part) * Fraction(*chance)
                                  + (1 - Fraction(*part)) * Fraction(*other[s][k][a]))
                        self.assertEqual(found[s][k][a], pair(wanted))


if __name__ == "__main__":
    unittest.main()
