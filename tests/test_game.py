import unittest

from talkmost.game import Game, kind_worlds, worlds

ONE = (1, 1)


class GameTest(unittest.TestCase):
    def test_attributes(self):
        game = Game(1, [2], [1], [[ONE, (1, 2)]], [[[[(3, 1)], [(0, 1)]]], [[[(-1, 1)], [ONE]]]])
        self.assertEqual(game.states, 1)
        self.assertEqual(game.kinds, [2])
        self.assertEqual(game.acts, [1])
        self.assertEqual(game.weights, [[ONE, (1, 2)]])
        self.assertEqual(game.pays, [[[[(3, 1)], [(0, 1)]]], [[[(-1, 1)], [ONE]]]])

    def test_lists_of_its_own(self):
        kinds, acts, weights = [1], [2], [[ONE]]
        pays = [[[[ONE, ONE]]], [[[ONE, ONE]]]]
        game = Game(1, kinds, acts, weights, pays)
        kinds.append(1)
        acts[0] = 3
        weights[0][0] = (5, 1)
        weights.append([])
        pays[0][0][0][1] = (7, 1)
        pays[0][0][0].append(ONE)
        pays[1][0].append([])
        pays[1].append([])
        pays.append([])
        self.assertEqual((game.kinds, game.acts, game.weights), ([1], [2], [[ONE]]))
        self.assertEqual(game.pays, [[[[ONE, ONE]]], [[[ONE, ONE]]]])

    def test_worlds(self):
        game = Game(2, [2, 2], [1, 1], [], [])
        self.assertEqual(worlds(game), [(s, k) for s in range(2) for k in range(4)])
        self.assertEqual(kind_worlds(game, 0, 1), [(0, 2), (0, 3), (1, 2), (1, 3)])
        self.assertEqual(kind_worlds(game, 1, 0), [(0, 0), (0, 2), (1, 0), (1, 2)])


if __name__ == "__main__":
    unittest.main()
