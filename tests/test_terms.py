import copy
import unittest
from fractions import Fraction

from games import count, random_chances, random_rule, small_game, source
from papers import plain_asked, plain_cells, random_terms
from talking import all_rows, plain_got
from talkmost.game import Game
from talkmost.lies import honest
from talkmost.liepapers import lie_paper
from talkmost.means import kind_total
from talkmost.terms import Terms, cell_states, free_terms, keeps_terms, lies_asked
from test_lies import all_done, plain_lie

ZERO, ONE, TWO, HALF = (0, 1), (1, 1), (2, 1), (1, 2)
A, B = [ONE, ZERO], [ZERO, ONE]


def guessing(weights=((1, 1), (1, 1))):
    """Two states, one hearer who likes to do the act of the state's number."""
    zeros = [[ZERO, ZERO]]
    return Game(2, [1], [2], [[weight] for weight in weights], [[zeros, zeros], [[[ONE, ZERO]], [[ZERO, ONE]]]])


def two_kinds():
    """One state; kind 0 likes act 0, kind 1 both, and kind 1 has no weight."""
    return Game(1, [2], [2], [[ONE, ZERO]], [[[[ZERO, ZERO]] * 2], [[[ONE, ZERO], [ONE, ONE]]]])


class TermsTest(unittest.TestCase):
    def test_attributes(self):
        terms = Terms([4, -1], True, [0], [[[0], [0, 1]]], [(0, 1, HALF)])
        self.assertEqual(
            vars(terms),
            {"cells": [4, -1], "seen": True, "trusted": [0], "told": [[[0], [0, 1]]], "floors": [(0, 1, HALF)]})

    def test_it_keeps_lists_of_its_own(self):
        cells, trusted, told, floors = [0, 0], [0], [[[0], [1]]], [(0, 0, ONE)]
        terms = Terms(cells, False, trusted, told, floors)
        kept = copy.deepcopy(vars(terms))
        cells.append(1)
        trusted.clear()
        told[0][0].append(1)
        told[0].append([0])
        told.append([[0]])
        floors[0] = (0, 0, TWO)
        self.assertEqual(vars(terms), kept)

    def test_free_terms(self):
        game = Game(3, [2, 1], [3, 2], [[ONE] * 2] * 3, [[[[ZERO] * 6] * 2] * 3] * 3)
        terms = free_terms(game)
        self.assertIsInstance(terms, Terms)
        self.assertEqual(
            vars(terms),
            {"cells": [0, 1, 2], "seen": False, "trusted": [], "told": [[[0, 1, 2]] * 2, [[0, 1]]], "floors": []})
        terms.told[0][0].append(7)
        self.assertEqual(terms.told, [[[0, 1, 2, 7], [0, 1, 2]], [[0, 1]]])

    def test_cells(self):
        def cells(labels):
            return cell_states(Terms(labels, False, [], [], []))

        self.assertEqual(cells([0, 1, 2]), [[0], [1], [2]])
        self.assertEqual(cells([9, 9, 9]), [[0, 1, 2]])
        self.assertEqual(cells([5, -2, 5, -2]), [[0, 2], [1, 3]])
        self.assertEqual(cells([2, 1, 0, 1]), [[0], [1, 3], [2]])
        numbers = source(221)
        for _ in range(30):
            terms = random_terms(numbers, small_game(numbers))
            self.assertEqual(cell_states(terms), plain_cells(terms))

    def test_lies_asked(self):
        game = Game(1, [2, 1, 3], [1, 1, 1], [[ONE] * 6], [[[[ZERO]] * 6]] * 4)
        free = free_terms(game)
        self.assertEqual(lies_asked(game, free), [
            (0, 0, 0), (0, 0, 1), (0, 1, 0), (0, 1, 1), (1, 0, 0),
            (2, 0, 0), (2, 0, 1), (2, 0, 2), (2, 1, 0), (2, 1, 1), (2, 1, 2), (2, 2, 0), (2, 2, 1), (2, 2, 2)])
        self.assertEqual(lies_asked(game, Terms([0], False, [2, 0], free.told, [])), [(1, 0, 0)])
        self.assertEqual(
            lies_asked(game, Terms([0], True, [1], free.told, [])),
            [(0, 0, 0), (0, 1, 1), (2, 0, 0), (2, 1, 1), (2, 2, 2)])
        self.assertEqual(lies_asked(game, Terms([0], True, [0, 1, 2], free.told, [])), [])
        numbers = source(222)
        for _ in range(30):
            game = small_game(numbers)
            terms = random_terms(numbers, game)
            self.assertEqual(lies_asked(game, terms), plain_asked(game, terms))


class KeepsTest(unittest.TestCase):
    def keeps(self, wanted, game, rule, cells=(0, 1), seen=False, trusted=(), told=(((0, 1),),), floors=()):
        terms = Terms(cells[:game.states], seen, trusted, told, floors)
        self.assertIs(keeps_terms(game, terms, rule), wanted)

    def test_alike_in_cells(self):
        game = guessing()
        self.keeps(True, game, [[A], [B]])
        self.keeps(True, game, [[A], [B]], cells=(1, 0))
        self.keeps(False, game, [[A], [B]], cells=(3, 3))
        self.keeps(True, game, [[A], [A]], cells=(3, 3))
        self.keeps(False, game, [[A], [B]], cells=(3, 3), trusted=(0,))
        self.keeps(True, game, [[[HALF, HALF]], [[HALF, HALF]]], cells=(3, 3))
        self.keeps(False, game, [[[HALF, HALF]], [[(1, 3), (2, 3)]]], cells=(3, 3), trusted=(0,))

    def test_only_acts_that_may_be_told(self):
        game = guessing()
        self.keeps(False, game, [[A], [B]], told=(((0,),),))
        self.keeps(True, game, [[A], [A]], told=(((0,),),))
        self.keeps(False, game, [[A], [[(9, 10), (1, 10)]]], told=(((0,),),), trusted=(0,))

    def test_also_in_a_world_of_weight_0(self):
        game = two_kinds()
        self.keeps(False, game, [[A, B]], told=(((0, 1), (0,)),))
        self.keeps(True, game, [[A, A]], told=(((0, 1), (0,)),))
        self.keeps(True, game, [[A, B]], told=(((0,), (1,)),))
        self.keeps(False, game, [[B, A]], told=(((0,), (1,)),), trusted=(0,))

    def test_lies_that_count(self):
        game = guessing()
        self.keeps(False, game, [[B], [A]])
        self.keeps(True, game, [[B], [A]], trusted=(0,))
        self.keeps(False, game, [[B], [A]], seen=True)
        # Kind 0 would like what kind 1 is told, and each does as it is told.
        envious = Game(1, [2], [2], [[ONE, ONE]], [[[[ZERO] * 2] * 2], [[[ONE, TWO], [ZERO, ONE]]]])
        told = (((0,), (1,)),)
        self.keeps(False, envious, [[A, B]], told=told)
        self.keeps(False, envious, [[A, B]], told=told, seen=True)
        jealous = Game(2, [2], [2], [[ONE, ONE], [ONE, ONE]], [
            [[[ZERO] * 2] * 2] * 2, [[[TWO, ZERO], [ZERO, ONE]], [[ZERO, ONE], [ZERO, ONE]]]])
        rule = [[A, A], [A, B]]
        self.assertFalse(honest(jealous, rule))
        guided = [[A, [HALF, HALF]], [A, B]]
        for seen in (False, True):
            for trusted in ((), (0,)):
                gains = self.plain_gains(jealous, guided, seen) and not trusted
                self.keeps(not gains, jealous, guided, seen=seen, trusted=trusted, told=(((0, 1),) * 2,))

    def plain_gains(self, game, rule, seen):
        return any(
            plain_lie(game, rule, 0, i, said, done) > plain_lie(game, rule, 0, i, i, range(game.acts[0]))
            for i in range(game.kinds[0]) for said in range(game.kinds[0]) if said == i or not seen
            for done in all_done(game, 0))

    def test_saying_another_kind_does_not_count_if_kinds_are_seen(self):
        # Kind 0 likes act 1 in state 1, of which only kind 1 is told.
        pays = [[[ONE, ZERO], [ZERO, ZERO]], [[ZERO, ONE], [ZERO, ZERO]]]
        game = Game(2, [2], [2], [[TWO, ONE], [ONE, ONE]], [[[[ZERO] * 2] * 2] * 2, pays])
        rule = [[A, A], [A, B]]
        self.assertFalse(honest(game, rule))
        self.keeps(False, game, rule, told=(((0, 1),) * 2,))
        self.keeps(True, game, rule, told=(((0, 1),) * 2,), seen=True)

    def test_floors(self):
        game = guessing(((1, 2), (3, 2)))
        rule = [[A], [B]]
        self.keeps(True, game, rule, floors=[(0, 0, ONE)])
        self.keeps(False, game, rule, floors=[(0, 0, (1000001, 1000000))])
        self.keeps(False, game, [[B], [B]], floors=[(0, 0, ONE)])
        self.keeps(True, game, [[B], [B]], floors=[(0, 0, (3, 4))])
        self.keeps(False, game, [[B], [B]], floors=[(0, 0, HALF), (0, 0, (4, 5))])
        self.keeps(False, game, [[B], [B]], trusted=(0,), floors=[(0, 0, (4, 5)), (0, 0, HALF)])

    def test_floors_of_kinds_without_weight(self):
        game = two_kinds()
        told = (((0, 1), (0, 1)),)
        self.keeps(True, game, [[A, A]], told=told, floors=[(0, 1, (1000, 1)), (0, 0, ONE)])

    def test_floors_below_0(self):
        game = Game(1, [1], [2], [[TWO]], [[[[ZERO] * 2]], [[[(-1, 1), (-2, 1)]]]])
        self.keeps(True, game, [[A]], floors=[(0, 0, (-1, 1))])
        self.keeps(False, game, [[A]], floors=[(0, 0, (-1, 2))])

    def test_wrong_lengths_and_no_chances(self):
        game = guessing()
        for rule in ([[A]], [[A], [B], [B]], [[A, A], [B]], [[A], []], [[A], [[ONE]]], [[A], [[ZERO, ONE, ZERO]]], [],
                     [[A], [[ZERO, ZERO]]], [[A], [[(-1, 1), TWO]]], [[A], [[HALF, ONE]]], [[A], [[(0, 2), ONE]]]):
            self.keeps(False, game, rule)
            self.keeps(False, game, rule, trusted=(0,))

    def test_free_terms_ask_for_honest_rules(self):
        numbers = source(223)
        found = {True: 0, False: 0}
        for n in range(80):
            game = small_game(numbers)
            if n % 2:
                alike = random_chances(numbers, count(game.acts))
                rule = [[list(alike) for _ in range(count(game.kinds))] for _ in range(game.states)]
            else:
                rule = random_rule(numbers, game)
            wanted = lie_paper(game, rule) is not None
            kept = copy.deepcopy((vars(game), rule))
            self.assertIs(keeps_terms(game, free_terms(game), rule), wanted)
            self.assertEqual((vars(game), rule), kept)
            found[wanted] += 1
        self.assertGreater(min(found.values()), 0)

    def test_against_the_words(self):
        numbers = source(224)
        found = {True: 0, False: 0}
        for _ in range(250):
            game = small_game(numbers, 16)
            terms = random_terms(numbers, game)
            if numbers.random() < 0.7:
                rule = self.rule_within(numbers, game, terms)
            else:
                rule = random_rule(numbers, game)
            wanted = self.words(game, terms, rule)
            kept = copy.deepcopy((vars(game), vars(terms), rule))
            self.assertIs(keeps_terms(game, terms, rule), wanted)
            self.assertEqual((vars(game), vars(terms), rule), kept)
            found[wanted] += 1
        self.assertGreater(min(found.values()), 15)

    def rule_within(self, numbers, game, terms):
        """A rule that is alike in cells and tells only what may be told."""
        by_cells = {}
        for cell in plain_cells(terms):
            by_kinds = []
            for kinds in all_rows(game.kinds):
                allowed = [
                    all(act in terms.told[h][kinds[h]] for h, act in enumerate(acts)) for acts in all_rows(game.acts)]
                chances = iter(random_chances(numbers, sum(allowed)))
                by_kinds.append([next(chances) if fine else ZERO for fine in allowed])
            by_cells.update({s: by_kinds for s in cell})
        return [by_cells[s] for s in range(game.states)]

    def words(self, game, terms, rule):
        for cell in plain_cells(terms):
            if any(rule[s] != rule[cell[0]] for s in cell):
                return False
        for by_kinds in rule:
            for kinds, chances in zip(all_rows(game.kinds), by_kinds):
                for acts, chance in zip(all_rows(game.acts), chances):
                    if chance[0] and any(act not in terms.told[h][kinds[h]] for h, act in enumerate(acts)):
                        return False
        for h, i, said in plain_asked(game, terms):
            truth = plain_lie(game, rule, h, i, i, range(game.acts[h]))
            if any(plain_lie(game, rule, h, i, said, done) > truth for done in all_done(game, h)):
                return False
        plain_rule = [[[Fraction(*chance) for chance in chances] for chances in by_kinds] for by_kinds in rule]
        for h, i, value in terms.floors:
            got = Fraction(*kind_total(game, rule, h, i))
            self.assertEqual(got, plain_got(game, plain_rule, h + 1, h, i))
            weight = sum([
                Fraction(*game.weights[s][k]) for s in range(game.states)
                for k, kinds in enumerate(all_rows(game.kinds)) if kinds[h] == i])
            if got < Fraction(*value) * weight:
                return False
        return True


if __name__ == "__main__":
    unittest.main()
