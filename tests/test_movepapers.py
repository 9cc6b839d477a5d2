import copy
import unittest
from fractions import Fraction

from games import pair, random_aims, small_game, source
from papers import plain_accepts, plain_allowed, plain_gives, plain_holds, random_terms
from talkmost.game import Game
from talkmost.movepapers import judge_most, judge_nothing
from talkmost.moving import most
from talkmost.terms import Terms, free_terms

ZERO, ONE, TWO, HALF, MINUS_ONE = (0, 1), (1, 1), (2, 1), (1, 2), (-1, 1)


def trial():
    """Innocent or guilty; the judge likes to be right, and the teller that act 1, to convict, is done."""
    likes = [[ZERO, ONE]]
    return Game(2, [1], [2], [[(7, 10)], [(3, 10)]], [[likes, likes], [[[ONE, ZERO]], [[ZERO, ONE]]]])


def trial_paper():
    # To convict an innocent is worth 1 to the teller and costs the judge 1 who is told to convict.
    return ([[ZERO], [(3, 5)]], [[[[[ONE, ZERO], [ONE, ZERO]]]]], [])


AIMS = [ONE, ZERO]


def leaves(item, path=()):
    """The paths to all fractions of a paper."""
    if isinstance(item, tuple) and len(item) == 2:
        return [path]
    return [found for at, part in enumerate(item) for found in leaves(part, path + (at,))]


def lists(item, path=()):
    """The paths to all lists of a paper."""
    if isinstance(item, tuple) and len(item) == 2:
        return []
    own = [path] if isinstance(item, list) else []
    return own + [found for at, part in enumerate(item) for found in lists(part, path + (at,))]


def at_path(item, path):
    for at in path:
        item = item[at]
    return item


def with_leaf(paper, path, number):
    paper = copy.deepcopy(paper)
    at_path(paper, path[:-1])[path[-1]] = number
    return paper


def with_more_room(paper, value, room):
    """The paper with each price of a world greater, and the value with it, so that it holds anyhow."""
    worlds = [[pair(Fraction(*price) + room) for price in prices] for prices in paper[0]]
    many = sum([len(prices) for prices in worlds])
    return (worlds, copy.deepcopy(paper[1]), list(paper[2])), pair(Fraction(*value) + room * many)


class TrialTest(unittest.TestCase):
    def judge(self, wanted, paper, value=(3, 5), aims=AIMS, terms=None):
        game = trial()
        self.assertIs(judge_most(game, terms or free_terms(game), aims, value, paper), wanted)

    def test_accepted(self):
        self.judge(True, trial_paper())
        self.judge(True, trial_paper(), value=(61, 100))
        worlds, lies, floors = trial_paper()
        self.judge(True, ([[ONE], [ONE]], lies, floors), value=TWO)
        self.judge(True, trial_paper(), terms=Terms([8, -8], True, [], [[[0, 1]]], []))

    def test_a_value_below_what_it_gives(self):
        self.judge(False, trial_paper(), value=(599, 1000))
        self.judge(False, trial_paper(), value=ZERO)

    def test_a_column_at_which_it_does_not_hold(self):
        self.judge(False, ([[ZERO], [HALF]], trial_paper()[1], []))
        self.judge(False, ([[(-1, 10)], [(3, 5)]], trial_paper()[1], []))
        self.judge(False, trial_paper(), aims=[TWO, ZERO])
        self.judge(False, ([[ZERO], [(3, 5)]], [[[[[ZERO, ZERO], [ZERO, ZERO]]]]], []))

    def test_the_price_of_obeying_does_not_matter(self):
        self.judge(True, ([[ZERO], [(3, 5)]], [[[[[ONE, ZERO], [ONE, ZERO]]]]], []))
        self.judge(True, ([[ZERO], [(3, 5)]], [[[[[TWO, ZERO], [ONE, ONE]]]]], []))

    def test_prices_below_0(self):
        worlds, _, floors = trial_paper()
        self.judge(False, (worlds, [[[[[(3, 2), (-1, 2)], [ONE, ZERO]]]]], floors))
        self.judge(False, ([[ONE], [ONE]], [[[[[MINUS_ONE, ZERO], [MINUS_ONE, ZERO]]]]], []), value=(10, 1))

    def test_sums_that_differ(self):
        worlds, _, floors = trial_paper()
        self.judge(False, (worlds, [[[[[ZERO, ZERO], [ONE, ZERO]]]]], floors))
        self.judge(False, ([[TWO], [TWO]], [[[[[ONE, ZERO], [HALF, ZERO]]]]], floors), value=(10, 1))

    def test_a_lie_that_does_not_count(self):
        trusting = Terms([0, 1], False, [0], [[[0, 1]]], [])
        self.judge(False, ([[TWO], [TWO]], trial_paper()[1], []), value=(10, 1), terms=trusting)
        none = [[[[[ZERO, ZERO], [ZERO, ZERO]]]]]
        self.judge(True, ([[(7, 10)], [(3, 10)]], none, []), value=ONE, terms=trusting)
        self.judge(False, ([[(7, 10)], [(3, 10)]], none, []), value=(9, 10), terms=trusting)

    def test_a_told_act_that_may_not_be_told(self):
        only = Terms([0, 1], False, [], [[[1]]], [])
        roomy = [[TWO], [TWO]]
        self.judge(False, (roomy, [[[[[ONE, ZERO], [ONE, ZERO]]]]], []), value=(10, 1), terms=only)
        self.judge(False, (roomy, [[[[[ONE, ZERO], [ZERO, ZERO]]]]], []), value=(10, 1), terms=only)
        self.judge(True, (roomy, [[[[[ZERO, ZERO], [ONE, ZERO]]]]], []), value=(10, 1), terms=only)

    def test_columns_are_of_acts_that_may_be_told(self):
        only = Terms([0, 1], False, [], [[[0]]], [])
        none = [[[[[ZERO, ZERO], [ZERO, ZERO]]]]]
        self.judge(True, ([[ZERO], [ZERO]], none, []), value=ZERO, terms=only)
        self.judge(False, ([[ZERO], [ZERO]], none, []), value=ZERO)

    def test_one_cell(self):
        blind = Terms([4, 4], False, [], [[[0, 1]]], [])
        paper = ([[ZERO]], [[[[[(5, 2), ZERO], [(5, 2), ZERO]]]]], [])
        self.judge(True, paper, value=ZERO, terms=blind)
        self.judge(False, ([[ZERO]], [[[[[TWO, ZERO], [TWO, ZERO]]]]], []), value=ZERO, terms=blind)

    def test_floors(self):
        # The judge is to be right in 8 of 10 cases: the price of 1 for this makes talk worth 1/2.
        floored = Terms([0, 1], False, [], [[[0, 1]]], [(0, 0, (4, 5))])
        none = [[[[[ZERO, ZERO], [ZERO, ZERO]]]]]
        worlds = [[(7, 10)], [(3, 5)]]
        self.judge(True, (worlds, none, [ONE]), value=HALF, terms=floored)
        self.judge(False, (worlds, none, [ONE]), value=(49, 100), terms=floored)
        self.judge(False, (worlds, none, [HALF]), value=HALF, terms=floored)
        self.judge(False, ([[TWO], [TWO]], none, [(-1, 1)]), value=(100, 1), terms=floored)
        self.judge(False, (worlds, none, []), value=HALF, terms=floored)

    def test_wrong_lengths(self):
        for path in lists(trial_paper()):
            shorter, longer = trial_paper(), trial_paper()
            if at_path(shorter, path):
                at_path(shorter, path).pop()
                self.judge(False, shorter, value=(10, 1))
            inner = at_path(longer, path)
            inner.append(copy.deepcopy(inner[-1]) if inner else ZERO)
            self.judge(False, longer, value=(10, 1))
        self.judge(False, trial_paper()[:2], value=(10, 1))
        self.judge(False, trial_paper(), aims=[ONE])
        self.judge(False, trial_paper(), aims=[ONE, ZERO, ZERO])

    def test_fractions_of_another_form(self):
        self.judge(False, ([[ZERO], [(6, 10)]], trial_paper()[1], []))
        self.judge(False, trial_paper(), value=(6, 10))


class NothingTest(unittest.TestCase):
    def judge(self, wanted, paper, floor=(3, 2), told=((0, 1),)):
        self.assertIs(judge_nothing(trial(), Terms([0, 1], False, [], [told], [(0, 0, floor)]), paper), wanted)

    def test_a_floor_that_cannot_be_met(self):
        none = [[[[[ZERO, ZERO], [ZERO, ZERO]]]]]
        paper = ([[(7, 10)], [(3, 10)]], none, [ONE])
        self.judge(True, paper)
        self.judge(True, paper, floor=(11, 10))
        self.judge(False, paper, floor=ONE)
        self.judge(False, paper, floor=HALF)
        self.judge(False, ([[HALF], [(3, 10)]], none, [ONE]))
        self.judge(False, ([[(7, 10)], [(3, 10)]], none, [(-1, 1)]), floor=(-2, 1))
        self.judge(False, ([[(7, 10)]], none, [ONE]))
        self.judge(False, ([[(7, 10)], [(3, 10)]], none, [ONE, ZERO]))
        self.judge(False, ([[(7, 10)], [(3, 10)]], none, []))
        self.judge(False, ([[ZERO], [ZERO]], none, [ZERO]))

    def test_an_act_that_nobody_does(self):
        game = trial()
        convict = Terms([0, 1], False, [], [[[1]]], [])
        paper = ([[(-7, 10)], [(3, 10)]], [[[[[ZERO, ZERO], [ONE, ZERO]]]]], [])
        self.assertIs(judge_nothing(game, convict, ([[(-7, 10)], [(3, 10)]], [[[[[ZERO] * 2, [ONE, ZERO]]]]], [])), True)
        self.assertIs(judge_nothing(game, free_terms(game), paper), False)
        self.assertIs(judge_most(game, convict, [ZERO, ZERO], (-2, 5), paper), True)


class RandomTest(unittest.TestCase):
    def cases(self, seed, many):
        numbers = source(seed)
        for n in range(many):
            game = small_game(numbers, 24)
            terms = random_terms(numbers, game) if n % 4 else free_terms(game)
            aims = random_aims(numbers, game)
            yield numbers, game, terms, aims, most(game, terms, aims)

    def same(self, game, terms, aims, value, paper):
        wanted = plain_accepts(game, terms, aims, value, paper)
        kept = copy.deepcopy((vars(game), vars(terms), aims, paper))
        self.assertIs(judge_most(game, terms, aims, value, paper), wanted)
        self.assertEqual((vars(game), vars(terms), aims, paper), kept)
        return wanted

    def test_prices_changed_in_one_place(self):
        found = {True: 0, False: 0}
        for numbers, game, terms, aims, result in self.cases(231, 80):
            if result[0] != "most":
                continue
            _, value, _, paper = result
            self.assertTrue(self.same(game, terms, aims, value, paper))
            for _ in range(6):
                path = numbers.choice(leaves(paper))
                step = Fraction(numbers.choice([-2, -1, 1, 2]), numbers.choice([1, 1000]))
                other = with_leaf(paper, path, pair(Fraction(*at_path(paper, path)) + step))
                found[self.same(game, terms, aims, value, other)] += 1
                found[self.same(game, terms, aims, pair(Fraction(*value) + 5), other)] += 1
                self.same(game, terms, aims, *with_more_room(other, value, 1000)[::-1])
        self.assertGreater(min(found.values()), 50)

    def test_each_condition_alone(self):
        """With much room in the worlds' prices, only prices that are not allowed are refused."""
        refused = 0
        for numbers, game, terms, aims, result in self.cases(232, 60):
            if result[0] != "most":
                continue
            paper, value = with_more_room(result[3], result[1], 10 ** 6)
            for path in leaves(paper[1]):
                other = with_leaf(paper, (1,) + path, pair(Fraction(*at_path(paper[1], path)) + 1))
                self.assertTrue(plain_holds(game, terms, aims, other))
                self.assertEqual(judge_most(game, terms, aims, value, other), plain_allowed(game, terms, other))
                refused += not plain_allowed(game, terms, other)
            for at in range(len(paper[2])):
                other = with_leaf(paper, (2, at), (-1, 1000))
                high = pair(Fraction(*value) + 10 ** 6)
                self.assertTrue(plain_holds(game, terms, aims, other))
                self.assertFalse(judge_most(game, terms, aims, high, other))
        self.assertGreater(refused, 100)

    def test_lengths(self):
        for numbers, game, terms, aims, result in self.cases(233, 40):
            paper = result[-1]
            for path in lists(paper):
                shorter, longer = copy.deepcopy(paper), copy.deepcopy(paper)
                longer_part = at_path(longer, path)
                longer_part.append(copy.deepcopy(longer_part[-1]) if longer_part else ZERO)
                others = [longer]
                if at_path(shorter, path):
                    at_path(shorter, path).pop()
                    others.append(shorter)
                for other in others:
                    self.assertFalse(judge_most(game, terms, aims, (10 ** 9, 1), other))
                    self.assertFalse(judge_nothing(game, terms, other))

    def test_nothing(self):
        found = {True: 0, False: 0}
        for numbers, game, terms, aims, result in self.cases(234, 150):
            paper = result[-1]
            zeros = [ZERO] * len(aims)
            papers = [paper]
            for _ in range(4):
                path = numbers.choice(leaves(paper))
                step = Fraction(numbers.choice([-1, 1]), numbers.choice([1, 1000]))
                papers.append(with_leaf(paper, path, pair(Fraction(*at_path(paper, path)) + step)))
            for other in papers:
                wanted = (
                    plain_allowed(game, terms, other) and plain_holds(game, terms, zeros, other)
                    and plain_gives(game, terms, other) < 0)
                kept = copy.deepcopy((vars(game), vars(terms), other))
                self.assertIs(judge_nothing(game, terms, other), wanted)
                self.assertEqual((vars(game), vars(terms), other), kept)
                found[wanted] += 1
        self.assertGreater(min(found.values()), 30)


if __name__ == "__main__":
    unittest.main()
