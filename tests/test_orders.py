import copy
import unittest
from fractions import Fraction
from itertools import combinations

from games import random_aims, random_number, small_game, source
from papers import plain_cells, random_terms
from talkmost.game import Game
from talkmost.moving import most
from talkmost.orders import least_trusted, looser
from talkmost.terms import Terms, free_terms, keeps_terms
from test_movepapers import trial

ZERO, ONE, TWO, HALF = (0, 1), (1, 1), (2, 1), (1, 2)


def plain_looser(terms, other):
    """Point 35, word by word."""
    cells = [set(cell) for cell in plain_cells(terms)]
    return (
        all(any(set(cell) <= own for own in cells) for cell in plain_cells(other))
        and (not terms.seen or other.seen)
        and set(terms.trusted) <= set(other.trusted)
        and all(set(acts) <= set(other.told[h][i]) for h, by_kinds in enumerate(terms.told)
                for i, acts in enumerate(by_kinds))
        and set(other.floors) <= set(terms.floors))


def loosened(numbers, game, terms):
    """Terms that are looser in some of the five conditions."""
    changes = [numbers.random() < 0.4 for _ in range(5)]
    cells = [label * 10 + numbers.randint(0, 1) for label in terms.cells] if changes[0] else terms.cells
    seen = terms.seen or changes[1]
    trusted = [h for h in range(len(game.kinds)) if h in terms.trusted or changes[2] and numbers.random() < 0.5]
    told = [
        [[a for a in range(acts) if a in own or changes[3] and numbers.random() < 0.5] for own in by_kinds]
        for acts, by_kinds in zip(game.acts, terms.told)]
    floors = [floor for floor in terms.floors if not changes[4] or numbers.random() < 0.5]
    return Terms(cells, seen, trusted, told, floors)


class LooserTest(unittest.TestCase):
    def both(self, forth, back, **changes):
        """Whether other terms, with such changes, are looser than these, and these than the other ones."""
        same = {"cells": [0, 0, 1], "seen": False, "trusted": [1], "told": [[[0], [0, 1]], [[1]]],
                "floors": [(0, 1, HALF), (1, 0, ZERO)]}
        terms, other = Terms(**same), Terms(**{**same, **changes})
        self.assertIs(looser(terms, other), forth)
        self.assertIs(looser(other, terms), back)
        self.assertIs(plain_looser(terms, other), forth)
        self.assertIs(plain_looser(other, terms), back)

    def test_the_same(self):
        self.both(True, True)

    def test_cells(self):
        self.both(True, False, cells=[0, 1, 2])
        self.both(False, True, cells=[0, 0, 0])
        self.both(False, False, cells=[0, 1, 1])
        self.both(False, False, cells=[1, 0, 1])

    def test_other_labels_of_the_same_cells(self):
        self.both(True, True, cells=[1, 1, 0])
        self.both(True, True, cells=[-7, -7, 100])
        self.both(True, False, cells=[1, 0, 2])

    def test_seen(self):
        self.both(True, False, seen=True)

    def test_trusted(self):
        self.both(True, False, trusted=[0, 1])
        self.both(True, False, trusted=[1, 0])
        self.both(False, True, trusted=[])
        self.both(False, False, trusted=[0])

    def test_told(self):
        self.both(True, False, told=[[[0, 1], [0, 1]], [[1]]])
        self.both(True, False, told=[[[0], [0, 1]], [[0, 1]]])
        self.both(False, True, told=[[[0], [1]], [[1]]])
        self.both(False, False, told=[[[1], [0, 1]], [[1]]])
        self.both(False, False, told=[[[0], [0, 1]], [[0]]])

    def test_floors(self):
        self.both(True, False, floors=[(0, 1, HALF)])
        self.both(True, False, floors=[])
        self.both(True, True, floors=[(1, 0, ZERO), (0, 1, HALF), (1, 0, ZERO)])
        self.both(False, True, floors=[(0, 1, HALF), (1, 0, ZERO), (0, 0, ZERO)])
        # A floor below one of these is none of these.
        self.both(False, False, floors=[(0, 1, (1, 3)), (1, 0, ZERO)])
        self.both(False, False, floors=[(0, 0, HALF), (1, 0, ZERO)])

    def test_one_condition_does_not_make_up_for_another(self):
        self.both(False, False, seen=True, trusted=[])
        self.both(False, False, cells=[0, 1, 2], floors=[(0, 1, HALF), (1, 0, ZERO), (0, 0, ZERO)])
        self.both(True, False, cells=[0, 1, 2], seen=True, trusted=[0, 1], told=[[[0, 1]] * 2, [[0, 1]]], floors=[])

    def test_random(self):
        numbers = source(251)
        found = {True: 0, False: 0}
        for n in range(300):
            game = small_game(numbers)
            terms = random_terms(numbers, game)
            other = loosened(numbers, game, terms) if n % 2 else random_terms(numbers, game)
            kept = copy.deepcopy((vars(terms), vars(other)))
            self.assertIs(looser(terms, other), plain_looser(terms, other))
            self.assertIs(looser(other, terms), plain_looser(other, terms))
            self.assertEqual((vars(terms), vars(other)), kept)
            self.assertIs(looser(terms, free_terms(game)), not terms.trusted and not terms.seen)
            found[looser(terms, other)] += 1
        self.assertGreater(min(found.values()), 50)

    def test_what_keeps_terms_keeps_looser_ones(self):
        numbers = source(252)
        kept = 0
        for _ in range(60):
            game = small_game(numbers, 24)
            terms = random_terms(numbers, game)
            other = loosened(numbers, game, terms)
            self.assertTrue(looser(terms, other))
            aims = random_aims(numbers, game)
            first, second = most(game, terms, aims), most(game, other, aims)
            if first[0] == "most":
                kept += 1
                self.assertTrue(keeps_terms(game, other, first[2]))
                self.assertEqual(second[0], "most")
                self.assertLessEqual(Fraction(*first[1]), Fraction(*second[1]))
        self.assertGreater(kept, 25)


def plain_least(game, terms, aims, value):
    hearers = range(len(game.kinds))
    sets = [list(chosen) for many in range(len(hearers) + 1) for chosen in combinations(hearers, many)]
    bringing = []
    for chosen in sets:
        found = most(game, Terms(terms.cells, terms.seen, chosen, terms.told, terms.floors), aims)
        if found[0] == "most" and Fraction(*found[1]) >= Fraction(*value):
            bringing.append(chosen)
    return [chosen for chosen in bringing if not any(set(other) < set(chosen) for other in bringing)]


class TrustTest(unittest.TestCase):
    AIMS = [ONE, ZERO]

    def least(self, value, told=((0, 1),), floors=(), trusted=()):
        return least_trusted(trial(), Terms([0, 1], False, trusted, [told], floors), self.AIMS, value)

    def test_one_hearer(self):
        self.assertEqual(self.least((3, 5)), [[]])
        self.assertEqual(self.least((-5, 1)), [[]])
        self.assertEqual(self.least((61, 100)), [[0]])
        self.assertEqual(self.least(ONE), [[0]])
        self.assertEqual(self.least((101, 100)), [])

    def test_who_is_trusted_in_the_terms_does_not_count(self):
        self.assertEqual(self.least((3, 5), trusted=[0]), [[]])
        self.assertEqual(self.least(ONE, trusted=[0]), [[0]])

    def test_where_no_rule_keeps_the_terms(self):
        self.assertEqual(self.least(ZERO, told=((1,),)), [[0]])
        self.assertEqual(self.least((-100, 1), floors=[(0, 0, TWO)]), [])

    def two(self, first, second):
        """Two hearers who do not heed each other; the teller gets what act 1 of each is worth."""
        acts = [(0, 0), (0, 1), (1, 0), (1, 1)]
        pays = [
            [(a * first + b * second, 1) for a, b in acts],
            [(-a, 1) for a, b in acts],
            [(-b, 1) for a, b in acts],
        ]
        return Game(1, [1, 1], [2, 2], [[ONE]], [[[by_acts]] for by_acts in pays])

    def test_two_hearers(self):
        game = self.two(1, 1)
        free, aims = free_terms(game), [ONE, ZERO, ZERO]
        self.assertEqual(least_trusted(game, free, aims, ZERO), [[]])
        self.assertEqual(least_trusted(game, free, aims, HALF), [[0], [1]])
        self.assertEqual(least_trusted(game, free, aims, ONE), [[0], [1]])
        self.assertEqual(least_trusted(game, free, aims, (3, 2)), [[0, 1]])
        self.assertEqual(least_trusted(game, free, aims, (5, 2)), [])
        game = self.two(1, 3)
        self.assertEqual(least_trusted(game, free, aims, TWO), [[1]])
        self.assertEqual(least_trusted(game, free, aims, (4, 1)), [[0, 1]])

    def test_three_hearers(self):
        pays = [[(a + b + c, 1) for a in (0, 1) for b in (0, 1) for c in (0, 1)]]
        pays += [[(-[a, b, c][h], 1) for a in (0, 1) for b in (0, 1) for c in (0, 1)] for h in range(3)]
        game = Game(1, [1] * 3, [2] * 3, [[ONE]], [[[by_acts]] for by_acts in pays])
        aims = [ONE] + [ZERO] * 3
        self.assertEqual(least_trusted(game, free_terms(game), aims, ONE), [[0], [1], [2]])
        self.assertEqual(least_trusted(game, free_terms(game), aims, TWO), [[0, 1], [0, 2], [1, 2]])
        self.assertEqual(least_trusted(game, free_terms(game), aims, (3, 1)), [[0, 1, 2]])
        pays[0] = [(a * (1 - b) + 2 * b * c + a * b * c, 1) for a in (0, 1) for b in (0, 1) for c in (0, 1)]
        game = Game(1, [1] * 3, [2] * 3, [[ONE]], [[[by_acts]] for by_acts in pays])
        self.assertEqual(least_trusted(game, free_terms(game), aims, ONE), [[0], [1, 2]])

    def test_random(self):
        numbers = source(253)
        several = 0
        for _ in range(90):
            game = small_game(numbers, 16)
            terms = random_terms(numbers, game)
            aims = random_aims(numbers, game)
            value = random_number(numbers, -6, 12)
            chosen = [h for h in range(len(game.kinds)) if numbers.random() < 0.5]
            best = most(game, Terms(terms.cells, terms.seen, chosen, terms.told, terms.floors), aims)
            if best[0] == "most" and numbers.random() < 0.8:
                value = best[1]
            kept = copy.deepcopy((vars(game), vars(terms), aims))
            found = least_trusted(game, terms, aims, value)
            self.assertEqual((vars(game), vars(terms), aims), kept)
            self.assertEqual(found, plain_least(game, terms, aims, value))
            several += found not in ([], [[]])
        self.assertGreater(several, 10)


if __name__ == "__main__":
    unittest.main()
