import copy
import unittest

from games import random_game, random_rule, source
from talkmost.draws import unit
from talkmost.game import Game
from talkmost.lies import honest
from talkmost.liepapers import judge_lies, lie_paper
from talkmost.ratio import add, neg, sub

ZERO, ONE, TWO, HALF = (0, 1), (1, 1), (2, 1), (1, 2)
SMALL = (1, 10 ** 30)
A, B = [ONE, ZERO], [ZERO, ONE]


def liked(game):
    """The rule by which a lone hearer's kinds do the acts that they like best in each state."""
    rule = []
    for s in range(game.states):
        rule.append([])
        for k in range(game.kinds[0]):
            pays = [p / q for p, q in game.pays[1][s][k]]
            rule[s].append(unit(pays.index(max(pays)), game.acts[0]))
    return rule


def told_game():
    """One hearer with two kinds, each of which likes another act; and an honest rule."""
    game = Game(1, [2], [2], [[ONE, TWO]], [[[[ZERO] * 2] * 2], [[[ONE, ZERO], [ZERO, ONE]]]])
    return game, [[A, B]]


class LiePaperTest(unittest.TestCase):
    def test_none_exactly_where_the_rule_is_not_honest(self):
        numbers = source(21)
        papers = 0
        for n in range(150):
            game = random_game(numbers)
            rule = liked(game) if n % 2 and len(game.kinds) == 1 else random_rule(numbers, game)
            kept = copy.deepcopy((vars(game), rule))
            paper = lie_paper(game, rule)
            self.assertEqual((vars(game), rule), kept)
            self.assertIs(paper is not None, honest(game, rule))
            if paper is not None:
                papers += 1
                kept = copy.deepcopy((vars(game), rule, paper))
                self.assertIs(judge_lies(game, rule, paper), True)
                self.assertEqual((vars(game), rule, paper), kept)
        self.assertGreater(papers, 20)

    def test_dishonest(self):
        game, rule = told_game()
        self.assertIsNone(lie_paper(game, [[B, A]]))
        self.assertIsNone(lie_paper(game, [[A, A]]))


class JudgeLiesTest(unittest.TestCase):
    def judged(self, change):
        game, rule = told_game()
        paper = [[[[ONE, ZERO], [ZERO, ONE]], [[TWO, ZERO], [ZERO, TWO]]]]
        change(paper)
        return judge_lies(game, rule, paper)

    def test_accepted(self):
        self.assertIs(self.judged(lambda paper: None), True)

    def test_numbers_for_a_kind_that_would_disobey(self):
        game, rule = told_game()
        # Saying 0, kind 1 is told act 0, where act 1 is worth 2 to it; it is never told act 1.
        paper = [[[[ONE, ZERO], [ZERO, ONE]], [[TWO, ZERO], [ZERO, TWO]]]]
        for pay in (ZERO, neg(ONE), HALF):
            game.pays[1][0][1][0] = pay
            paper[0][1][0] = [TWO, ZERO]
            self.assertIs(judge_lies(game, rule, paper), True)
            paper[0][1][0] = [TWO, SMALL]
            self.assertIs(judge_lies(game, rule, paper), False)
            paper[0][1][0] = [sub(TWO, SMALL), SMALL]
            self.assertIs(judge_lies(game, rule, paper), False)

    def test_loose_numbers(self):
        game = Game(1, [2], [2], [[ONE, ONE]], [[[[ZERO] * 2] * 2], [[[TWO, ZERO], [ZERO, ZERO]]]])
        rule = [[A, [HALF, HALF]]]
        paper = [[[[TWO, ZERO], [ONE, ONE]], [[ZERO, ZERO], [ZERO, ZERO]]]]
        self.assertIs(judge_lies(game, rule, paper), True)
        paper[0][0][1] = [(3, 2), HALF]
        self.assertIs(judge_lies(game, rule, paper), False)
        rule = [[A, [(1, 4), (3, 4)]]]
        paper[0][0][1] = [HALF, (3, 2)]
        self.assertIs(judge_lies(game, rule, paper), True)
        game.weights[0][0] = (3, 4)
        self.assertIs(judge_lies(game, rule, paper), False)
        paper[0][0] = [[(3, 2), ZERO], [(3, 8), (9, 8)]]
        self.assertIs(judge_lies(game, rule, paper), True)

    def test_a_number_below_a_part(self):
        self.assertIs(self.judged(lambda paper: paper[0][0].__setitem__(0, [sub(ONE, SMALL), ZERO])), False)
        self.assertIs(self.judged(lambda paper: paper[0][0].__setitem__(0, [ONE, neg(SMALL)])), False)
        self.assertIs(self.judged(lambda paper: paper[0][1].__setitem__(1, [ZERO, sub(TWO, SMALL)])), False)
        self.assertIs(self.judged(lambda paper: paper[0][1].__setitem__(0, [ONE, ONE])), False)

    def test_a_sum_above_the_total(self):
        self.assertIs(self.judged(lambda paper: paper[0][0].__setitem__(0, [ONE, SMALL])), False)
        self.assertIs(self.judged(lambda paper: paper[0][1].__setitem__(1, [ZERO, add(TWO, SMALL)])), False)

    def test_one_too_few_or_too_many(self):
        changes = [
            lambda paper: paper[0][0][0].pop(), lambda paper: paper[0][1][1].append(ZERO),
            lambda paper: paper[0][0].pop(), lambda paper: paper[0][1].append([ZERO, ZERO]),
            lambda paper: paper[0].pop(), lambda paper: paper[0].append(paper[0][1]),
            lambda paper: paper.pop(), lambda paper: paper.append(paper[0]),
            lambda paper: paper[0].clear(), lambda paper: paper[0][1].clear(),
            lambda paper: paper[0][1][0].clear(),
        ]
        for change in changes:
            self.assertIs(self.judged(change), False)

    def test_each_hearer_has_its_numbers(self):
        kinds, acts = [2, 1], [1, 2]
        game = Game(1, kinds, acts, [[ONE, ONE]], [[[[ZERO] * 2] * 2]] * 3)
        rule = [[A, B]]
        for h in range(2):
            for change in (list.pop, lambda numbers: numbers.append(ZERO)):
                for level in range(3):
                    paper = copy.deepcopy(lie_paper(game, rule))
                    self.assertIs(judge_lies(game, rule, paper), True)
                    inner = paper[h]
                    for _ in range(level):
                        inner = inner[-1]
                    change(inner)
                    self.assertIs(judge_lies(game, rule, paper), False)

    def test_a_rule_that_is_not_honest_has_no_paper(self):
        game, _ = told_game()
        paper = [[[[ONE, ZERO], [ZERO, ONE]], [[TWO, ZERO], [ZERO, TWO]]]]
        self.assertIs(judge_lies(game, [[A, A]], paper), False)
        self.assertIs(judge_lies(game, [[A, A]], [[[[ONE, ZERO]] * 2, [[TWO, ZERO]] * 2]]), False)

    def test_a_rule_of_the_wrong_length(self):
        game, rule = told_game()
        paper = lie_paper(game, rule)
        self.assertIs(judge_lies(game, rule + rule, paper), False)
        self.assertIs(judge_lies(game, [rule[0][:1]], paper), False)


if __name__ == "__main__":
    unittest.main()
