import copy
import unittest
from fractions import Fraction

from games import is_lowest, pair, random_number, source
from talkmost.beliefs import (
    best_acts, best_split, is_split, judge_plane, piece_act, piece_value, split_talk, split_total,
)
from talkmost.game import Game
from talkmost.got import got_total
from talkmost.moving import most
from talkmost.plans import are_plans
from talkmost.ratio import scaled
from talkmost.replies import judge_plans
from talkmost.talks import Talk, is_talk
from talkmost.terms import free_terms
from test_movepapers import trial

ZERO, ONE, TWO, HALF, MINUS = (0, 1), (1, 1), (2, 1), (1, 2), (-1, 1)


def game_of(weights, teller, hearer):
    """A game with one hearer of one kind, of integers; what the two get stands by states and acts."""
    pays = [[[[(pay, 1) for pay in by_acts]] for by_acts in got] for got in (teller, hearer)]
    return Game(len(weights), [1], [len(teller[0])], [[(weight, 1)] for weight in weights], pays)


def random_game(numbers):
    states, acts = numbers.randint(1, 4), numbers.randint(1, 3)
    low = numbers.choice([0, 1])
    weights = [[random_number(numbers, low, 3)] for _ in range(states)]
    top = numbers.choice([1, 4])
    pays = [
        [[[random_number(numbers, -top, top) for _ in range(acts)]] for _ in range(states)] for _ in range(2)]
    return Game(states, [1], [acts], weights, pays)


def games(seed, many):
    numbers = source(seed)
    for _ in range(many):
        yield numbers, random_game(numbers)


def plain_pays(game, piece, who):
    return [
        sum([Fraction(*piece[s]) * Fraction(*game.pays[who][s][0][act]) for s in range(game.states)])
        for act in range(game.acts[0])]


def plain_best(game, piece):
    pays = plain_pays(game, piece, 1)
    return [act for act in range(game.acts[0]) if pays[act] == max(pays)]


def plain_value(game, piece):
    pays = plain_pays(game, piece, 0)
    return max([pays[act] for act in plain_best(game, piece)])


def plain_act(game, piece):
    pays = plain_pays(game, piece, 0)
    return [act for act in plain_best(game, piece) if pays[act] == plain_value(game, piece)][0]


def random_piece(numbers, game):
    return [random_number(numbers, 0, 3) if numbers.random() < 0.7 else ZERO for _ in range(game.states)]


def random_split(numbers, game, many):
    """So many pieces that add up to the weights, some of them perhaps of zeros alone."""
    shares = []
    for weight in game.weights:
        parts = [numbers.choice([0, 0, 1, 2, 3]) for _ in range(many)]
        parts[numbers.randrange(many)] += 1
        shares.append([pair(Fraction(*weight[0]) * Fraction(part, sum(parts))) for part in parts])
    return [[by_pieces[n] for by_pieces in shares] for n in range(many)]


class PiecesTest(unittest.TestCase):
    def test_best_acts(self):
        game = trial()
        self.assertEqual(best_acts(game, [ONE, TWO]), [1])
        self.assertEqual(best_acts(game, [TWO, ONE]), [0])
        self.assertEqual(best_acts(game, [ONE, ONE]), [0, 1])
        self.assertEqual(best_acts(game, [ZERO, ZERO]), [0, 1])
        game = game_of([1], [[0, 0, 0]], [[2, 1, 2]])
        self.assertEqual(best_acts(game, [HALF]), [0, 2])

    def test_the_first_of_the_best_acts_by_which_the_teller_gets_most(self):
        for teller, wanted in [([0, 9, 1], 2), ([1, 9, 1], 0), ([1, 9, 0], 0), ([-1, -9, 0], 2), ([-2, 0, -2], 0)]:
            game = game_of([1], [teller], [[2, 1, 2]])
            self.assertEqual(piece_act(game, [HALF]), wanted)
            self.assertEqual(piece_value(game, [HALF]), pair(Fraction(teller[wanted], 2)))
            self.assertEqual(piece_act(game, [ZERO]), 0)
            self.assertEqual(piece_value(game, [ZERO]), ZERO)
        game = trial()
        self.assertEqual(piece_act(game, [ONE, ONE]), 1)
        self.assertEqual(piece_value(game, [(3, 10), (3, 10)]), (3, 5))

    def test_random(self):
        several = 0
        for numbers, game in games(291, 120):
            piece = random_piece(numbers, game)
            kept = copy.deepcopy((vars(game), piece))
            self.assertEqual(best_acts(game, piece), plain_best(game, piece))
            self.assertEqual(piece_act(game, piece), plain_act(game, piece))
            self.assertEqual(piece_value(game, piece), pair(plain_value(game, piece)))
            self.assertEqual((vars(game), piece), kept)
            several += len(best_acts(game, piece)) > 1
        self.assertGreater(several, 10)

    def test_a_piece_times_a_number(self):
        for numbers, game in games(292, 60):
            piece = random_piece(numbers, game)
            for number in (ZERO, HALF, (7, 3), random_number(numbers, 1, 99)):
                value = Fraction(*piece_value(game, piece)) * Fraction(*number)
                self.assertEqual(piece_value(game, scaled(number, piece)), pair(value))


class SplitTest(unittest.TestCase):
    def split(self, wanted, pieces):
        kept = copy.deepcopy(pieces)
        self.assertIs(is_split(trial(), pieces), wanted)
        self.assertEqual(pieces, kept)

    def test_a_split(self):
        self.split(True, [[(7, 10), (3, 10)]])
        self.split(True, [[(2, 5), ZERO], [(3, 10), (3, 10)]])
        self.split(True, [[(7, 10), ZERO], [ZERO, ZERO], [ZERO, (1, 10)], [ZERO, (1, 5)]])

    def test_a_piece_too_long_or_too_short(self):
        self.split(False, [[(7, 10), (3, 10), ZERO]])
        self.split(False, [[(7, 10)]])
        self.split(False, [[(7, 10), (3, 10)], []])
        self.split(False, [[(7, 10), (3, 10)], [ZERO]])
        self.split(False, [[(7, 10), (3, 10)], [ZERO, ZERO, ZERO]])

    def test_a_number_below_0(self):
        self.split(False, [[ONE, (3, 10)], [(-3, 10), ZERO]])

    def test_a_sum_that_is_not_the_weight(self):
        self.split(False, [[(7, 10), (2, 10)]])
        self.split(False, [[(7, 10), (1, 5)]])
        self.split(False, [[(7, 10), (3, 10)], [ZERO, (1, 1000)]])
        self.split(False, [[(3, 10), (7, 10)]])
        self.split(False, [[ZERO, ZERO]])
        self.split(False, [])

    def test_fractions_of_another_form(self):
        self.split(False, [[(14, 20), (3, 10)]])
        self.split(False, [[(7, 10), (3, 10)], [(0, 2), ZERO]])

    def test_no_weights(self):
        game = game_of([0, 0], [[1, 2]] * 2, [[3, 4]] * 2)
        self.assertIs(is_split(game, []), True)
        self.assertIs(is_split(game, [[ZERO, ZERO]]), True)
        self.assertIs(is_split(game, [[ZERO, ONE]]), False)
        self.assertEqual(split_total(game, []), ZERO)

    def test_totals(self):
        self.assertEqual(split_total(trial(), [[(7, 10), (3, 10)]]), ZERO)
        self.assertEqual(split_total(trial(), [[(7, 10), ZERO], [ZERO, (3, 10)]]), (3, 10))
        self.assertEqual(split_total(trial(), [[(2, 5), ZERO], [(3, 10), (3, 10)]]), (3, 5))

    def test_random(self):
        for numbers, game in games(293, 60):
            pieces = random_split(numbers, game, numbers.randint(1, 5))
            kept = copy.deepcopy((vars(game), pieces))
            self.assertIs(is_split(game, pieces), True)
            wanted = sum([plain_value(game, piece) for piece in pieces])
            self.assertEqual(split_total(game, pieces), pair(wanted))
            self.assertEqual((vars(game), pieces), kept)


def plain_accepts(game, plane, value):
    """Point 53, for a plane of the right lengths."""
    prices, bounds = plane
    acts = range(game.acts[0])
    if any(Fraction(*bound) < 0 for by_acts in bounds for bound in by_acts):
        return False
    for s in range(game.states):
        teller = [Fraction(*pay) for pay in game.pays[0][s][0]]
        hearer = [Fraction(*pay) for pay in game.pays[1][s][0]]
        for a in acts:
            least = teller[a] + sum([Fraction(*bounds[a][b]) * (hearer[a] - hearer[b]) for b in acts])
            if Fraction(*prices[s]) < least:
                return False
    given = sum([Fraction(*price) * Fraction(*weight[0]) for price, weight in zip(prices, game.weights)])
    return given <= Fraction(*value)


class BestTest(unittest.TestCase):
    def check(self, game):
        """All that is promised of the best split, whose value is returned."""
        kept = copy.deepcopy(vars(game))
        found = best_split(game)
        self.assertEqual(vars(game), kept)
        self.assertTrue(is_lowest(found))
        value, pieces, plane = found
        self.assertIs(is_split(game, pieces), True)
        self.assertLessEqual(len(pieces), game.states)
        self.assertTrue(all(any(number != ZERO for number in piece) for piece in pieces))
        self.assertEqual(split_total(game, pieces), value)
        self.assertEqual(sum([plain_value(game, piece) for piece in pieces]), Fraction(*value))
        self.assertIsInstance(plane, tuple)
        self.assertIs(judge_plane(game, plane, value), True)
        self.assertTrue(plain_accepts(game, plane, value))
        self.assertEqual(most(game, free_terms(game), [ONE, ZERO])[1], value)
        return value

    def test_trial(self):
        self.assertEqual(self.check(trial()), (3, 5))

    def test_one_state(self):
        game = game_of([3], [[5, 1, 4]], [[0, 1, 1]])
        self.assertEqual(self.check(game), (12, 1))
        self.assertEqual(best_split(game)[1], [[(3, 1)]])

    def test_fewer_states_than_acts(self):
        # The hearer likes act 1 where it knows nothing, and the teller likes acts 0 and 2.
        game = game_of([1, 1], [[1, 0, 1], [1, 0, 1]], [[3, 2, 0], [0, 2, 3]])
        self.assertEqual(self.check(game), TWO)

    def test_no_weights(self):
        game = game_of([0, 0], [[1, 2]] * 2, [[3, 4]] * 2)
        self.assertEqual(self.check(game), ZERO)
        self.assertEqual(best_split(game)[1], [])

    def test_a_state_without_weight(self):
        game = game_of([0, 2, 0], [[5, 1], [1, 2], [0, 7]], [[1, 0], [0, 0], [0, 1]])
        self.assertEqual(self.check(game), (4, 1))

    def test_random(self):
        many = {count: 0 for count in range(1, 4)}
        for numbers, game in games(294, 150):
            value = Fraction(*self.check(game))
            many[max(len(best_split(game)[1]), 1)] += 1
            # More pieces than states bring no more, either.
            for _ in range(5):
                pieces = random_split(numbers, game, numbers.randint(1, 6))
                self.assertLessEqual(Fraction(*split_total(game, pieces)), value)
        self.assertGreater(min(many.values()), 2)

    def test_alike_acts(self):
        """Where acts are alike there are more best rules, some of them with more pieces than states."""
        numbers = source(295)
        for _ in range(60):
            states = numbers.randint(1, 3)
            teller = [[numbers.choice([0, 1])] * 3 for _ in range(states)]
            hearer = [[numbers.choice([0, 1]) for _ in range(3)] for _ in range(states)]
            self.check(game_of([numbers.randint(0, 2) for _ in range(states)], teller, hearer))

    def test_planes_lie_above_the_values_of_pieces(self):
        for numbers, game in games(296, 60):
            prices, _ = best_split(game)[2]
            for _ in range(6):
                piece = random_piece(numbers, game)
                above = sum([Fraction(*price) * Fraction(*number) for price, number in zip(prices, piece)])
                self.assertGreaterEqual(above, plain_value(game, piece))


class PlaneTest(unittest.TestCase):
    # To convict is worth 1, and what the judge loses by it counts 1 for the teller.
    PLANE = ([ZERO, TWO], [[ZERO, ZERO], [ONE, ZERO]])

    def judge(self, wanted, plane, value=(3, 5), game=None):
        kept = copy.deepcopy(plane)
        self.assertIs(judge_plane(game or trial(), plane, value), wanted)
        self.assertEqual(plane, kept)

    def test_accepted(self):
        self.judge(True, self.PLANE)
        self.judge(True, self.PLANE, value=ONE)
        self.judge(True, ([ZERO, TWO], [[ZERO, ZERO], [ONE, (9, 2)]]))
        self.judge(True, ([ONE, ONE], [[ZERO, ZERO], [ZERO, ZERO]]), value=ONE)

    def test_a_value_too_low(self):
        self.judge(False, self.PLANE, value=(59, 100))
        self.judge(False, self.PLANE, value=MINUS)

    def test_a_price_too_low_in_one_state_for_one_act(self):
        self.judge(False, ([(-1, 100), TWO], self.PLANE[1]))
        self.judge(False, ([ZERO, (199, 100)], self.PLANE[1]))
        self.judge(False, ([ZERO, TWO], [[ZERO, (1, 100)], [ONE, ZERO]]))
        self.judge(False, ([ZERO, TWO], [[ZERO, ZERO], [(99, 100), ZERO]]))

    def test_a_bound_below_0(self):
        self.judge(False, ([ONE, ONE], [[ZERO, (-1, 100)], [ZERO, ZERO]]), value=(9, 1))
        self.judge(False, ([ONE, ONE], [[MINUS, ZERO], [ZERO, ZERO]]), value=(9, 1))
        self.judge(False, ([TWO, TWO], [[ZERO, ZERO], [(-1, 100), MINUS]]), value=(9, 1))

    def test_wrong_lengths(self):
        prices, bounds = self.PLANE
        for plane in [
            (prices[:1], bounds), (prices + [ZERO], bounds), ([], bounds), (prices, bounds[:1]),
            (prices, bounds + bounds[:1]), (prices, []), (prices, [bounds[0], bounds[1] + [ZERO]]),
            (prices, [bounds[0], bounds[1][:1]]), (prices, [bounds[0] + [ZERO], bounds[1]]), (prices, [[], []]),
            (prices,), (prices, bounds, []), (),
        ]:
            self.judge(False, plane, value=(99, 1))

    def test_fractions_of_another_form(self):
        self.judge(False, ([(0, 3), TWO], self.PLANE[1]))
        self.judge(False, ([ZERO, TWO], [[ZERO, ZERO], [(2, 2), ZERO]]))
        self.judge(False, self.PLANE, value=(6, 10))

    def test_changed_in_one_place(self):
        found = {True: 0, False: 0}
        for numbers, game in games(297, 60):
            value, _, plane = best_split(game)
            for _ in range(8):
                prices, bounds = copy.deepcopy(plane)
                step = Fraction(numbers.choice([-1, 1]), numbers.choice([1, 1000]))
                if numbers.random() < 0.5:
                    s = numbers.randrange(game.states)
                    prices[s] = pair(Fraction(*prices[s]) + step)
                else:
                    a, b = numbers.randrange(game.acts[0]), numbers.randrange(game.acts[0])
                    bounds[a][b] = pair(Fraction(*bounds[a][b]) + step)
                for room in (0, 5):
                    number = pair(Fraction(*value) + room)
                    wanted = plain_accepts(game, (prices, bounds), number)
                    self.judge(wanted, (prices, bounds), number, game)
                    found[wanted] += 1
        self.assertGreater(min(found.values()), 100)


class TalkTest(unittest.TestCase):
    def check(self, game, pieces):
        kept = copy.deepcopy((vars(game), pieces))
        talk, plans = split_talk(game, pieces)
        self.assertEqual((vars(game), pieces), kept)
        self.assertTrue(is_lowest([talk.chances, plans]))
        self.assertIs(is_talk(game, talk), True)
        self.assertEqual((talk.reports, talk.tellings), ([[1]], [[len(pieces)]]))
        self.assertIs(are_plans(game, talk, plans), True)
        self.assertIs(judge_plans(game, talk, plans), True)
        self.assertEqual(got_total(game, talk, plans, 0), split_total(game, pieces))
        for s, (weight,) in enumerate(game.weights):
            wanted = [ONE] + [ZERO] * (len(pieces) - 1)
            if weight != ZERO:
                wanted = [pair(Fraction(*piece[s]) / Fraction(*weight)) for piece in pieces]
            self.assertEqual(talk.chances[0][s], [wanted])
        (_, acts), = plans
        for chances, piece in zip(acts[0], pieces):
            self.assertEqual(chances[plain_act(game, piece)], ONE)
        return talk, plans

    def test_trial(self):
        talk, plans = self.check(trial(), [[(2, 5), ZERO], [(3, 10), (3, 10)]])
        self.assertIsInstance(talk, Talk)
        self.assertEqual(talk.chances, [[[[(4, 7), (3, 7)]], [[ZERO, ONE]]]])
        self.assertEqual(plans, [([[[[ONE]]]], [[[ONE, ZERO], [ZERO, ONE]]])])

    def test_one_piece(self):
        talk, plans = self.check(trial(), [[(7, 10), (3, 10)]])
        self.assertEqual(talk.chances, [[[[ONE]], [[ONE]]]])
        self.assertEqual(plans, [([[[[ONE]]]], [[[ONE, ZERO]]])])

    def test_a_state_without_weight(self):
        game = game_of([2, 0], [[1, 0], [0, 1]], [[0, 0], [3, 1]])
        talk, _ = self.check(game, [[ONE, ZERO], [HALF, ZERO], [HALF, ZERO]])
        self.assertEqual(talk.chances, [[[[HALF, (1, 4), (1, 4)]], [[ONE, ZERO, ZERO]]]])

    def test_a_piece_of_zeros_alone(self):
        self.check(trial(), [[ZERO, ZERO], [(7, 10), (3, 10)], [ZERO, ZERO]])

    def test_random(self):
        weightless = 0
        for numbers, game in games(298, 90):
            weightless += [ZERO] in game.weights
            for many in (1, 2, 3):
                self.check(game, random_split(numbers, game, many))
        self.assertGreater(weightless, 10)

    def test_best_splits(self):
        for _, game in games(299, 60):
            value, pieces, _ = best_split(game)
            if 1 <= len(pieces) <= 3:
                talk, plans = self.check(game, pieces)
                self.assertEqual(got_total(game, talk, plans, 0), value)


if __name__ == "__main__":
    unittest.main()
