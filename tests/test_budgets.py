import copy
import unittest
from fractions import Fraction
from itertools import combinations, product

from games import count, is_lowest, pair, random_aims, small_game, source
from papers import plain_accepts, plain_allowed, plain_gives, plain_holds
from talking import random_plans, talk_of
from talkmost.budgets import budget_most, choices, frontier
from talkmost.draws import unit
from talkmost.game import Game
from talkmost.got import got_total
from talkmost.means import total
from talkmost.movepapers import judge_most, judge_nothing
from talkmost.moving import most
from talkmost.plans import with_plan
from talkmost.replies import gaining_plan, judge_plans
from talkmost.talks import Talk, is_talk
from talkmost.terms import Terms, free_terms, keeps_terms
from test_movepapers import trial

ZERO, ONE, TWO, HALF, MINUS = (0, 1), (1, 1), (2, 1), (1, 2), (-1, 1)
AIMS = [ONE, ZERO]


def chosen_terms(game, told):
    free = free_terms(game)
    return Terms(free.cells, False, [], told, [])


def plain_choices(game, budget):
    """All choices, by drawing a list for each kind of each hearer in turn."""
    lists = [
        [list(acts) for acts in combinations(range(many), told)]
        for many, told, kinds in zip(game.acts, budget, game.kinds) for _ in range(kinds)]
    found = []
    for flat in product(*lists):
        flat = list(flat)
        found.append([[flat.pop(0) for _ in range(kinds)] for kinds in game.kinds])
    return found


def plain_most(game, aims, budget):
    """The greatest value over all choices, or None, and the first choice with it."""
    best, first = None, None
    for told in plain_choices(game, budget):
        found = most(game, chosen_terms(game, told), aims)
        if found[0] == "most" and (best is None or Fraction(*found[1]) > best):
            best, first = Fraction(*found[1]), told
    return best, first


def all_budgets(game):
    return [list(budget) for budget in product(*[range(1, acts + 1) for acts in game.acts])]


def plain_frontier(game, aims, value):
    bringing = []
    for budget in all_budgets(game):
        best, _ = plain_most(game, aims, budget)
        if best is not None and best >= Fraction(*value):
            bringing.append(budget)
    least = [
        budget for budget in bringing
        if all(other == budget or any(a > b for a, b in zip(other, budget)) for other in bringing)]
    return sorted(least, key=lambda budget: (sum(budget), budget))


def duel(numbers):
    """A game of two hearers who get by what both do."""
    acts = [2, numbers.choice([2, 2, 3])]
    rows = list(product(*[range(many) for many in acts]))
    return Game(1, [1, 1], acts, [[ONE]], [[[[(numbers.randint(-5, 5), 1) for _ in rows]]] for _ in range(3)])


def apart(numbers):
    """A game of two hearers who would each like to know the state, and get nothing by what the other does."""
    acts = [2, numbers.choice([2, 3])]
    rows = list(product(*[range(many) for many in acts]))
    pays = [[[[(max(int(act == s) for act in row) * 6 + numbers.randint(0, 2), 1) for row in rows]] for s in (0, 1)]]
    for h in (0, 1):
        pays.append([[[(int(row[h] == s) * numbers.randint(2, 4), 1) for row in rows]] for s in (0, 1)])
    return Game(2, [1, 1], acts, [[(numbers.randint(1, 3), 1)] for _ in (0, 1)], pays)


def sized(kinds, acts, states=1):
    """A game of these counts in which nobody gets anything."""
    rows, columns = count(kinds), count(acts)
    pays = [[[[ZERO] * columns] * rows] * states] * (len(kinds) + 1)
    return Game(states, kinds, acts, [[ONE] * rows] * states, pays)


class ChoicesTest(unittest.TestCase):
    def test_one_hearer(self):
        game = sized([2], [3])
        self.assertEqual(choices(game, [1]), [[[[a], [b]]] for a in range(3) for b in range(3)])
        pairs = [[0, 1], [0, 2], [1, 2]]
        self.assertEqual(choices(game, [2]), [[[a, b]] for a in pairs for b in pairs])
        self.assertEqual(choices(game, [3]), [[[[0, 1, 2], [0, 1, 2]]]])

    def test_two_hearers(self):
        game = sized([1, 2], [3, 2])
        self.assertEqual(choices(game, [2, 1]), [
            [[a], [[b], [c]]] for a in ([0, 1], [0, 2], [1, 2]) for b in (0, 1) for c in (0, 1)])
        self.assertEqual(choices(game, [1, 2]), [[[[a]], [[0, 1], [0, 1]]] for a in range(3)])

    def test_all_budgets(self):
        for kinds, acts in [([3], [3]), ([2, 2], [3, 3]), ([3, 1], [1, 3]), ([1, 2, 1], [2, 3, 2]), ([2, 2, 2], [2, 1, 3])]:
            game = sized(kinds, acts)
            for budget in all_budgets(game):
                kept = copy.deepcopy((vars(game), budget))
                found = choices(game, budget)
                self.assertEqual((vars(game), budget), kept)
                self.assertEqual(found, plain_choices(game, budget))
                self.assertEqual(found, sorted(found))
                for told in found:
                    for by_kinds, many in zip(told, budget):
                        self.assertTrue(all(len(acts) == many and acts == sorted(set(acts)) for acts in by_kinds))

    def test_lists_of_their_own(self):
        found = choices(sized([2], [2]), [1])
        found[0][0][0].append(7)
        self.assertEqual(found[1:], [[[[0], [1]]], [[[1], [0]]], [[[1], [1]]]])
        self.assertEqual(found[0], [[[0, 7], [0]]])


class BudgetTest(unittest.TestCase):
    def check(self, game, aims, budget):
        """All that is promised of the answer, which is returned."""
        kept = copy.deepcopy((vars(game), aims, budget))
        found = budget_most(game, aims, budget)
        self.assertEqual((vars(game), aims, budget), kept)
        self.assertTrue(is_lowest(found[1:]))
        best, first = plain_most(game, aims, budget)
        papers = found[-1]
        self.assertIsInstance(papers, list)
        self.assertEqual([told for told, _ in papers], plain_choices(game, budget))
        if found[0] == "most":
            _, value, told, rule, _ = found
            self.assertEqual((Fraction(*value), told), (best, first))
            self.assertTrue(keeps_terms(game, chosen_terms(game, told), rule))
            brought = [Fraction(*aim) * Fraction(*total(game, rule, who)) for who, aim in enumerate(aims)]
            self.assertEqual(sum(brought), best)
            self.accepted(game, aims, value, papers)
        else:
            self.assertEqual(found[0], "nothing")
            self.assertEqual(len(found), 2)
            self.assertIsNone(best)
            for told, paper in papers:
                self.assertTrue(judge_nothing(game, chosen_terms(game, told), paper))
        return found

    def accepted(self, game, aims, value, papers):
        for told, paper in papers:
            terms = chosen_terms(game, told)
            fine = judge_most(game, terms, aims, value, paper)
            zeros = [ZERO] * len(aims)
            none = (plain_allowed(game, terms, paper) and plain_holds(game, terms, zeros, paper)
                    and plain_gives(game, terms, paper) < 0)
            self.assertEqual(fine, plain_accepts(game, terms, aims, value, paper))
            self.assertEqual(none, judge_nothing(game, terms, paper))
            self.assertTrue(fine or none)

    def test_trial(self):
        # Told one act alone, the judge learns nothing, and never convicts.
        self.assertEqual(self.check(trial(), AIMS, [1])[1:3], (ZERO, [[[0]]]))
        self.assertEqual(self.check(trial(), AIMS, [2])[1:3], ((3, 5), [[[0, 1]]]))
        self.assertEqual(self.check(trial(), [MINUS, ZERO], [1])[1:3], (ZERO, [[[0]]]))
        self.assertEqual(self.check(trial(), [ZERO, ONE], [1])[1:3], ((7, 10), [[[0]]]))

    def test_the_first_choice_of_several(self):
        game = sized([2], [3])
        found = self.check(game, AIMS, [2])
        self.assertEqual(found[1:3], (ZERO, [[[0, 1], [0, 1]]]))
        # What is worth most is at the second choice and at the third one.
        pays = [[[[ZERO, ONE, ONE]]], [[[ZERO] * 3]]]
        game = Game(1, [1], [3], [[ONE]], pays)
        self.assertEqual(self.check(game, AIMS, [1])[1:3], (ONE, [[[1]]]))
        self.assertEqual(self.check(game, [MINUS, ZERO], [1])[1:3], (ZERO, [[[0]]]))

    def test_nothing(self):
        # Each of two would like to match the other one, who would like to differ: no sure acts last.
        same, other = [ONE, ZERO, ZERO, ONE], [ZERO, ONE, ONE, ZERO]
        game = Game(1, [1, 1], [2, 2], [[ONE]], [[[[ZERO] * 4]], [[same]], [[other]]])
        self.assertEqual(self.check(game, [ONE, ZERO, ZERO], [1, 1])[0], "nothing")
        self.assertEqual(self.check(game, [ONE, ZERO, ZERO], [2, 1])[0], "nothing")
        self.assertEqual(self.check(game, [ZERO, ONE, ZERO], [2, 2])[1], HALF)

    def test_random(self):
        numbers = source(271)
        found = {"most": 0, "nothing": 0, "several": 0}
        for n in range(90):
            game = small_game(numbers, 24) if n % 2 else duel(numbers)
            aims = random_aims(numbers, game)
            budget = [numbers.randint(1, acts) for acts in game.acts]
            answer = self.check(game, aims, budget)
            found[answer[0]] += 1
            found["several"] += len(answer[-1]) > 1
            if budget == game.acts:
                self.assertEqual(answer[:2], most(game, free_terms(game), aims)[:2])
        self.assertGreater(min(found.values()), 3)

    def test_more_acts_bring_no_less(self):
        numbers = source(272)
        for _ in range(25):
            game = small_game(numbers, 16)
            aims = random_aims(numbers, game)
            values = {tuple(budget): plain_most(game, aims, budget)[0] for budget in all_budgets(game)}
            for budget, other in product(values, repeat=2):
                if all(a <= b for a, b in zip(budget, other)) and values[budget] is not None:
                    self.assertLessEqual(values[budget], values[other])


class OneHearerTest(unittest.TestCase):
    """With one hearer a budget is what talks of one round with so many tellings can bring."""

    def games(self, seed, many):
        numbers = source(seed)
        found = []
        while len(found) < many:
            game = small_game(numbers, 24)
            if len(game.kinds) == 1 and game.acts[0] > 1:
                found.append((numbers, game, [numbers.randint(1, game.acts[0])]))
        return found

    def test_a_talk_that_brings_it(self):
        for _, game, budget in self.games(275, 30):
            found = budget_most(game, AIMS, budget)
            if found[0] == "nothing":
                continue
            _, value, told, rule, _ = found
            kinds, many = game.kinds[0], budget[0]
            chances = [[[rule[s][k][act] for act in told[0][k]] for k in range(kinds)] for s in range(game.states)]
            talk = Talk(1, [[kinds]], [budget], [chances])
            acts = [unit(act, game.acts[0]) for k in range(kinds) for act in told[0][k]]
            plans = [([[[unit(i, kinds)]] for i in range(kinds)], [acts] * kinds)]
            self.assertTrue(is_talk(game, talk))
            self.assertEqual(len(acts), kinds * many)
            self.assertTrue(judge_plans(game, talk, plans))
            self.assertEqual(got_total(game, talk, plans, 0), value)

    def test_no_talk_brings_more(self):
        best = 0
        for numbers, game, budget in self.games(276, 40):
            talk = talk_of(numbers, game, [[numbers.randint(1, 3)]], [budget])
            plans = random_plans(numbers, game, talk)
            for _ in range(20):
                gaining = gaining_plan(game, talk, plans)
                plans = plans if gaining is None else with_plan(plans, *gaining[:3])
            if judge_plans(game, talk, plans):
                best += 1
                value = budget_most(game, AIMS, budget)[1]
                self.assertLessEqual(Fraction(*got_total(game, talk, plans, 0)), Fraction(*value))
        self.assertGreater(best, 30)


class FrontierTest(unittest.TestCase):
    def test_one_hearer(self):
        self.assertEqual(frontier(trial(), AIMS, ZERO), [[1]])
        self.assertEqual(frontier(trial(), AIMS, (-7, 1)), [[1]])
        self.assertEqual(frontier(trial(), AIMS, (1, 100)), [[2]])
        self.assertEqual(frontier(trial(), AIMS, (3, 5)), [[2]])
        self.assertEqual(frontier(trial(), AIMS, (601, 1000)), [])

    def one_who_guesses(self, hearers):
        """Two states; the teller gets 1 if somebody does the act of the state's number, and each likes to."""
        acts = list(product((0, 1), repeat=hearers))
        pays = [[[[(max([int(a == s) for a in row]), 1) for row in acts]] for s in (0, 1)]]
        for h in range(hearers):
            pays.append([[[(int(row[h] == s) * 2 - 1, 1) for row in acts]] for s in (0, 1)])
        return Game(2, [1] * hearers, [2] * hearers, [[HALF], [HALF]], pays)

    def test_two_budgets_of_which_neither_is_below_the_other(self):
        game, aims = self.one_who_guesses(2), [ONE, ZERO, ZERO]
        # In a game with as many of both states they may also be told to do different acts, with no news.
        self.assertEqual(frontier(game, aims, ONE), plain_frontier(game, aims, ONE))
        game = Game(2, [1, 1], [2, 2], [[(2, 1)], [ONE]], game.pays)
        self.assertEqual(frontier(game, aims, (2, 1)), [[1, 1]])
        self.assertEqual(frontier(game, aims, (5, 2)), [[1, 2], [2, 1]])
        self.assertEqual(frontier(game, aims, (3, 1)), [[1, 2], [2, 1]])
        self.assertEqual(frontier(game, aims, (7, 2)), [])

    def test_the_order(self):
        game = self.one_who_guesses(3)
        game = Game(2, [1] * 3, [2] * 3, [[(2, 1)], [ONE]], game.pays)
        self.assertEqual(frontier(game, [ONE] + [ZERO] * 3, (3, 1)), [[1, 1, 2], [1, 2, 1], [2, 1, 1]])
        # A value for all who guess asks for more than one of them to be told.
        self.assertEqual(frontier(game, [ZERO, ONE, ONE, ONE], (6, 1)), [[1, 2, 2], [2, 1, 2], [2, 2, 1]])
        self.assertEqual(frontier(game, [ZERO, ONE, ONE, ONE], (9, 1)), [[2, 2, 2]])

    def test_a_greater_sum_comes_later(self):
        """To tell the first hearer of state 2 is worth as much as to tell the second one of all states."""
        acts = [(a, b) for a in (0, 1) for b in (0, 1, 2)]
        teller = [[[(max(10 * a * int(s == 2), 5 * int(b == s > 0)), 1) for a, b in acts]] for s in range(3)]
        first = [[[(a if s == 2 else -a, 1) for a, _ in acts]] for s in range(3)]
        second = [[[((2 if s else 5) * int(b == s), 1) for _, b in acts]] for s in range(3)]
        game = Game(3, [1, 1], [2, 3], [[ONE]] * 3, [teller, first, second])
        aims = [ONE, ZERO, ZERO]
        self.assertEqual(frontier(game, aims, (10, 1)), [[2, 1], [1, 3]])
        self.assertEqual(frontier(game, aims, (5, 1)), [[1, 2], [2, 1]])
        self.assertEqual(frontier(game, aims, (15, 1)), [[2, 2]])

    def test_random(self):
        numbers = source(273)
        found = {"none": 0, "one": 0, "more": 0}
        for n in range(90):
            game = small_game(numbers, 16) if n % 2 else apart(numbers)
            aims = random_aims(numbers, game) if n % 2 else [ONE, ZERO, ZERO]
            best = [plain_most(game, aims, budget)[0] for budget in all_budgets(game)]
            best = [value for value in best if value is not None]
            value = pair(numbers.choice(best) if n % 8 else max(best) + Fraction(1, 1000))
            kept = copy.deepcopy((vars(game), aims))
            answer = frontier(game, aims, value)
            self.assertEqual((vars(game), aims), kept)
            self.assertEqual(answer, plain_frontier(game, aims, value))
            found["none" if not answer else "one" if len(answer) == 1 else "more"] += 1
        self.assertGreater(min(found.values()), 3)


if __name__ == "__main__":
    unittest.main()
