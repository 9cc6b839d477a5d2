import copy
import unittest

from talkmost.game import Game
from talkmost.ratio import add, neg, sub
from talkmost.replies import reply
from talkmost.replypapers import judge_reply, reply_paper
from talkmost.talks import Talk
from test_replies import examples, kinds_of

ZERO, ONE, TWO, HALF = (0, 1), (1, 1), (2, 1), (1, 2)
SMALL = (1, 10 ** 30)
A, B, H = [ONE, ZERO], [ZERO, ONE], [HALF, HALF]


def small():
    """One hearer, who reports twice, is told something in between, and likes what it is told."""
    game = Game(1, [2], [2], [[ONE, TWO]], [[[[ZERO] * 2] * 2], [[[ZERO] * 2, [ONE, (3, 1)]]]])
    talk = Talk(1, [[1], [2]], [[2], [1]], [[[H]], [[[ONE]] * 4]])
    plans = [([[[[ONE]], [A, A]]] * 2, [[A, A, A, A]] * 2)]
    return game, talk, plans


def small_paper():
    """The best numbers of kind 1 there."""
    return [[(6, 1)], [(3, 1), (3, 1)], [(3, 1)] * 4]


class ReplyPaperTest(unittest.TestCase):
    def test_accepted_for_the_best_total_and_for_no_less(self):
        for game, talk, plans in examples(91, 40):
            for h, i in kinds_of(game):
                kept = copy.deepcopy((vars(game), vars(talk), plans))
                paper = reply_paper(game, talk, plans, h, i)
                self.assertEqual((vars(game), vars(talk), plans), kept)
                best = reply(game, talk, plans, h, i)[0]
                kept = copy.deepcopy((vars(game), vars(talk), plans, paper))
                self.assertIs(judge_reply(game, talk, plans, h, i, best, paper), True)
                self.assertIs(judge_reply(game, talk, plans, h, i, add(best, SMALL), paper), True)
                self.assertIs(judge_reply(game, talk, plans, h, i, sub(best, SMALL), paper), False)
                self.assertEqual((vars(game), vars(talk), plans, paper), kept)

    def test_without_rounds(self):
        game, _, _ = small()
        talk, plans = Talk(1, [], [], []), [([[], []], [[A], [A]])]
        paper = reply_paper(game, talk, plans, 0, 1)
        self.assertIs(judge_reply(game, talk, plans, 0, 1, (6, 1), paper), True)
        for paper, value, wanted in (
            ([[(6, 1)]], (6, 1), True), ([[(7, 1)]], (7, 1), True), ([[(7, 1)]], (6, 1), False),
            ([[sub((6, 1), SMALL)]], (6, 1), False), ([], (6, 1), False), ([[]], (6, 1), False),
            ([[(6, 1), (6, 1)]], (6, 1), False), ([[(6, 1)], [(6, 1)]], (6, 1), False),
        ):
            self.assertIs(judge_reply(game, talk, plans, 0, 1, value, paper), wanted)


class JudgeReplyTest(unittest.TestCase):
    def judged(self, change, value=(6, 1)):
        game, talk, plans = small()
        paper = small_paper()
        change(paper)
        return judge_reply(game, talk, plans, 0, 1, value, paper)

    def test_accepted(self):
        self.assertIs(self.judged(lambda paper: None), True)
        self.assertIs(self.judged(lambda paper: None, (7, 1)), True)
        game, talk, plans = small()
        self.assertEqual(reply_paper(game, talk, plans, 0, 1), small_paper())

    def test_numbers_that_leave_room(self):
        def loose(paper):
            paper[2][3] = add((3, 1), SMALL)
            paper[1][1] = add((3, 1), SMALL)
            paper[0][0] = add((6, 1), SMALL)

        self.assertIs(self.judged(loose, add((6, 1), SMALL)), True)
        self.assertIs(self.judged(loose), False)

    def test_a_number_below_a_value_at_the_end(self):
        for n in range(4):
            self.assertIs(self.judged(lambda paper: paper[2].__setitem__(n, sub((3, 1), SMALL))), False)
        self.assertIs(self.judged(lambda paper: paper[2].__setitem__(3, ONE)), False)
        self.assertIs(self.judged(lambda paper: paper[2].__setitem__(0, neg((3, 1)))), False)

    def test_a_number_below_a_sum_before_a_round(self):
        for n in range(2):
            self.assertIs(self.judged(lambda paper: paper[1].__setitem__(n, sub((3, 1), SMALL))), False)
        self.assertIs(self.judged(lambda paper: paper[0].__setitem__(0, sub((6, 1), SMALL))), False)
        for n in range(4):
            self.assertIs(self.judged(lambda paper: paper[2].__setitem__(n, add((3, 1), SMALL))), False)

    def test_a_first_number_above_the_value(self):
        self.assertIs(self.judged(lambda paper: paper[0].__setitem__(0, add((6, 1), SMALL))), False)
        self.assertIs(self.judged(lambda paper: None, sub((6, 1), SMALL)), False)
        self.assertIs(self.judged(lambda paper: None, ZERO), False)

    def test_fractions_of_another_form(self):
        self.assertIs(self.judged(lambda paper: None, (14, 2)), False)
        self.assertIs(self.judged(lambda paper: paper[1].__setitem__(0, (6, 2))), False)

    def test_a_number_or_a_list_too_few_or_too_many(self):
        changes = [
            lambda paper: paper[0].pop(), lambda paper: paper[0].append(ZERO),
            lambda paper: paper[1].pop(), lambda paper: paper[1].append((3, 1)),
            lambda paper: paper[2].pop(), lambda paper: paper[2].append((3, 1)),
            lambda paper: paper.pop(), lambda paper: paper.pop(0), lambda paper: paper.pop(1),
            lambda paper: paper.append([(3, 1)] * 4), lambda paper: paper.insert(0, [(6, 1)]),
            lambda paper: paper.clear(),
        ]
        for change in changes:
            self.assertIs(self.judged(change), False)

    def test_the_paper_of_another_kind(self):
        game, talk, plans = small()
        paper = reply_paper(game, talk, plans, 0, 0)
        self.assertIs(judge_reply(game, talk, plans, 0, 0, ZERO, paper), True)
        self.assertIs(judge_reply(game, talk, plans, 0, 1, (6, 1), paper), False)

    def test_plans_of_the_wrong_length(self):
        game, talk, plans = small()
        self.assertIs(judge_reply(game, talk, plans * 2, 0, 1, (6, 1), small_paper()), False)
        self.assertIs(judge_reply(game, talk, [], 0, 1, (6, 1), small_paper()), False)


if __name__ == "__main__":
    unittest.main()
