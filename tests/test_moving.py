import copy
import unittest
from fractions import Fraction

from games import is_lowest, pair, random_aims, random_number, small_game, source
from papers import has_shape, plain_accepts, plain_allowed, plain_gives, plain_holds, random_terms
from talking import all_rows, random_plans, random_talk
from talkmost.game import Game
from talkmost.got import got_total
from talkmost.lies import honest
from talkmost.means import total
from talkmost.movepapers import judge_most, judge_nothing
from talkmost.moving import most
from talkmost.plans import with_plan
from talkmost.replies import gaining_plan, judge_plans
from talkmost.terms import Terms, free_terms, keeps_terms
from test_movepapers import trial

ZERO, ONE, TWO, HALF = (0, 1), (1, 1), (2, 1), (1, 2)


def brought(game, rule, aims):
    return sum([Fraction(*aim) * Fraction(*total(game, rule, who)) for who, aim in enumerate(aims)])


class Checked(unittest.TestCase):
    def check(self, game, terms, aims):
        """All that is promised of the answer, which is returned."""
        kept = copy.deepcopy((vars(game), vars(terms), aims))
        found = most(game, terms, aims)
        self.assertEqual((vars(game), vars(terms), aims), kept)
        self.assertTrue(is_lowest(found[1:]))
        self.assertTrue(has_shape(game, terms, found[-1]))
        if found[0] == "most":
            _, value, rule, paper = found
            self.assertTrue(keeps_terms(game, terms, rule))
            self.assertEqual(brought(game, rule, aims), Fraction(*value))
            self.assertTrue(judge_most(game, terms, aims, value, paper))
            self.assertTrue(plain_accepts(game, terms, aims, value, paper))
            self.assertFalse(judge_most(game, terms, aims, pair(Fraction(*value) - Fraction(1, 10 ** 9)), paper))
        else:
            name, paper = found
            self.assertEqual(name, "nothing")
            self.assertTrue(judge_nothing(game, terms, paper))
            self.assertTrue(plain_allowed(game, terms, paper))
            self.assertTrue(plain_holds(game, terms, [ZERO] * len(aims), paper))
            self.assertLess(plain_gives(game, terms, paper), 0)
        return found

    def value(self, wanted, game, aims, cells=None, seen=False, trusted=(), told=None, floors=()):
        free = free_terms(game)
        terms = Terms(cells or free.cells, seen, trusted, told or free.told, floors)
        found = self.check(game, terms, aims)
        self.assertEqual(found[1] if found[0] == "most" else "nothing", wanted)


class TrialTest(Checked):
    """Innocent (7/10) or guilty; the judge likes to be right, and the teller that act 1 is done."""

    AIMS = [ONE, ZERO]

    def test_free_terms(self):
        self.value((3, 5), trial(), self.AIMS)
        found = most(trial(), free_terms(trial()), self.AIMS)
        self.assertEqual(found[:3], ("most", (3, 5), [[[(4, 7), (3, 7)]], [[ZERO, ONE]]]))

    def test_other_aims(self):
        self.value(ONE, trial(), [ZERO, ONE])
        self.value(ZERO, trial(), [(-1, 1), ZERO])
        self.value((-7, 10), trial(), [ZERO, (-1, 1)])
        self.value(ZERO, trial(), [ZERO, ZERO])
        self.value((13, 10), trial(), [ONE, ONE])
        self.value((-1, 10), trial(), [ONE, (-1, 1)])

    def test_cells(self):
        self.value(ZERO, trial(), self.AIMS, cells=[0, 0])
        self.value((7, 10), trial(), [ZERO, ONE], cells=[3, 3])
        self.value((3, 5), trial(), self.AIMS, cells=[1, 0])

    def test_trust(self):
        self.value(ONE, trial(), self.AIMS, trusted=[0])
        self.value(ONE, trial(), self.AIMS, trusted=[0], cells=[0, 0])

    def test_acts_that_may_be_told(self):
        self.value("nothing", trial(), self.AIMS, told=[[[1]]])
        self.value(ZERO, trial(), self.AIMS, told=[[[0]]])
        self.value(ONE, trial(), self.AIMS, told=[[[1]]], trusted=[0])

    def test_floors(self):
        self.value(HALF, trial(), self.AIMS, floors=[(0, 0, (4, 5))])
        self.value((3, 10), trial(), self.AIMS, floors=[(0, 0, ONE)])
        self.value("nothing", trial(), self.AIMS, floors=[(0, 0, (101, 100))])
        self.value((3, 5), trial(), self.AIMS, floors=[(0, 0, (-3, 1)), (0, 0, ZERO)])
        self.value((3, 5), trial(), self.AIMS, floors=[(0, 0, (7, 10))])
        self.value((4, 5), trial(), self.AIMS, trusted=[0], floors=[(0, 0, HALF), (0, 0, HALF), (0, 0, (1, 9))])
        self.value(HALF, trial(), self.AIMS, floors=[(0, 0, HALF), (0, 0, HALF), (0, 0, (4, 5)), (0, 0, ZERO)])


class KindsTest(Checked):
    def test_what_kinds_tell(self):
        """Each kind likes its own act; the teller likes act 1, but must ask which kind there is."""
        game = Game(1, [2], [2], [[ONE, ONE]], [[[[ZERO, ONE]] * 2], [[[TWO, ZERO], [ZERO, ONE]]]])
        self.value(ONE, game, [ONE, ZERO])
        self.value((3, 1), game, [ZERO, ONE])
        self.value(TWO, game, [ONE, ZERO], trusted=[0])

    def test_seen_kinds_help(self):
        """Two states; kind 0 likes to know the state, kind 1 does act 0 in any case if it does not know."""
        likes = [[[ONE, ZERO], [(3, 1), ZERO]], [[ZERO, ONE], [ZERO, ONE]]]
        game = Game(2, [2], [2], [[ONE, ONE]] * 2, [[[[ZERO, ONE], [ONE, ZERO]]] * 2, likes])
        free = self.check(game, free_terms(game), [ONE, ZERO])[1]
        seen = self.check(game, Terms([0, 1], True, [], [[[0, 1]] * 2], []), [ONE, ZERO])[1]
        # Told nothing, kind 0 does act 1 as well as 0, and kind 1 does act 0; seen, so can each be told.
        self.assertEqual(seen, (4, 1))
        self.assertLessEqual(Fraction(*free), 4)

    def test_two_hearers_who_like_to_differ(self):
        """Telling one of two hearers to yield, by chance, brings both more than they get alone."""
        first = [(6, 1), TWO, (7, 1), ZERO]
        second = [(6, 1), (7, 1), TWO, ZERO]
        game = Game(1, [1, 1], [2, 2], [[ONE]], [[[[ZERO] * 4]], [[first]], [[second]]])
        self.value((21, 2), game, [ZERO, ONE, ONE])
        self.value((-36, 5), game, [ZERO, (-1, 1), (-1, 1)])
        self.value((12, 1), game, [ZERO, ONE, ONE], trusted=[0, 1])
        self.value((7, 1), game, [ZERO, ONE, ZERO])

    def test_no_weights(self):
        for kinds, acts in [([1], [2]), ([2], [3]), ([2, 1], [2, 2])]:
            rows, columns = len(all_rows(kinds)), len(all_rows(acts))
            pays = [[[[(n, 3) for n in range(columns)]] * rows] * 2] * (len(kinds) + 1)
            pays = [[[[pair(Fraction(*n)) for n in by_acts] for by_acts in one] for one in two] for two in pays]
            game = Game(2, kinds, acts, [[ZERO] * rows] * 2, pays)
            self.value(ZERO, game, [ONE] * len(pays))
            self.value(ZERO, game, [ONE] * len(pays), floors=[(0, 0, (5, 1))])
            self.value(ZERO, game, [(-2, 1)] * len(pays), cells=[1, 1], seen=True)


class RandomTest(Checked):
    def test_free_terms(self):
        numbers = source(241)
        for n in range(70):
            game = small_game(numbers)
            aims = random_aims(numbers, game) if n % 5 else [ZERO] * len(game.pays)
            found = self.check(game, free_terms(game), aims)
            self.assertEqual(found[0], "most")
            self.assertTrue(honest(game, found[2]))

    def test_drawn_terms(self):
        numbers = source(242)
        names = {"most": 0, "nothing": 0}
        for _ in range(150):
            game = small_game(numbers)
            names[self.check(game, random_terms(numbers, game), random_aims(numbers, game))[0]] += 1
        self.assertGreater(min(names.values()), 30)

    def test_floors_up_to_what_can_be(self):
        """A floor at the most that a kind can get is met with equality, and a greater one cannot be."""
        numbers = source(243)
        for _ in range(25):
            game = small_game(numbers, 24)
            free = free_terms(game)
            h = numbers.randrange(len(game.kinds))
            i = numbers.randrange(game.kinds[h])
            weight = sum([
                Fraction(*game.weights[s][k]) for s in range(game.states)
                for k, kinds in enumerate(all_rows(game.kinds)) if kinds[h] == i])
            if not weight:
                continue
            # What kind i gets is what the hearer gets if the other kinds get nothing.
            alone = copy.deepcopy(game)
            for k, kinds in enumerate(all_rows(game.kinds)):
                for s in range(game.states):
                    if kinds[h] != i:
                        alone.pays[0][s][k] = [ZERO] * len(game.pays[0][s][k])
                    else:
                        alone.pays[0][s][k] = list(game.pays[h + 1][s][k])
            aims = [ONE] + [ZERO] * len(game.kinds)
            best = Fraction(*self.check(alone, free, aims)[1]) / weight
            floored = Terms(free.cells, False, [], free.told, [(h, i, pair(best))])
            self.assertEqual(self.check(game, floored, aims)[0], "most")
            floored = Terms(free.cells, False, [], free.told, [(h, i, pair(best + Fraction(1, 10 ** 6)))])
            self.assertEqual(self.check(game, floored, aims)[0], "nothing")

    def test_best_plans_lie_between_the_least_and_the_most(self):
        numbers = source(244)
        best = 0
        for n in range(60):
            game = small_game(numbers, 24)
            talk = random_talk(numbers, game, n % 3, 32)
            plans = random_plans(numbers, game, talk)
            for _ in range(20):
                gaining = gaining_plan(game, talk, plans)
                if gaining is None:
                    break
                plans = with_plan(plans, *gaining[:3])
            if not judge_plans(game, talk, plans):
                continue
            best += 1
            got = Fraction(*got_total(game, talk, plans, 0))
            nothing = [ZERO] * len(game.kinds)
            high = self.check(game, free_terms(game), [ONE] + nothing)[1]
            low = self.check(game, free_terms(game), [(-1, 1)] + nothing)[1]
            self.assertLessEqual(got, Fraction(*high))
            self.assertLessEqual(-Fraction(*low), got)
        self.assertGreater(best, 25)

    def test_the_greatest_games(self):
        numbers = source(245)
        shapes = [(4, [1], [3]), (4, [3], [3]), (3, [2, 2], [2, 2]), (1, [2, 2], [3, 3]), (1, [3, 3], [2, 2]),
                  (1, [2, 2, 1], [2, 2, 2]), (1, [3, 2], [3, 2]), (1, [3, 1, 1], [2, 2, 3])]
        for states, kinds, acts in shapes:
            rows, columns = len(all_rows(kinds)), len(all_rows(acts))
            weights = [[random_number(numbers, 0, 3) for _ in range(rows)] for _ in range(states)]
            pays = [[[[random_number(numbers, -9, 9) for _ in range(columns)] for _ in range(rows)]
                     for _ in range(states)] for _ in range(len(kinds) + 1)]
            game = Game(states, kinds, acts, weights, pays)
            self.check(game, free_terms(game), random_aims(numbers, game))
            self.check(game, random_terms(numbers, game), random_aims(numbers, game))


if __name__ == "__main__":
    unittest.main()
