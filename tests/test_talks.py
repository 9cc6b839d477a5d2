import copy
import unittest

from games import count, source, random_game
from talking import (
    all_rows, before, own_before, own_spot, plain_histories, random_talk, talk_of, told_rounds,
)
from talkmost.game import Game
from talkmost.talks import Talk, bounds_before, histories, is_talk, own_bounds, own_place

ZERO, ONE, HALF = (0, 1), (1, 1), (1, 2)
A = [ONE, ZERO]


def bare_game(states, hearers):
    many = [1] * hearers
    return Game(states, many, many, [[ONE]] * states, [[[[ZERO]]] * states] * (hearers + 1))


def small_parts():
    """The parts of a talk of two rounds for a game of two states and two hearers."""
    reports, tellings = [[2, 1], [1, 1]], [[1, 2], [2, 1]]
    chances = [[[[ONE, ZERO], [HALF, HALF]] for _ in range(2)], [[[HALF, HALF]] * 4 for _ in range(2)]]
    return reports, tellings, chances


def small_talk():
    return Talk(2, *small_parts())


def even_talk(states, reports, tellings):
    """A talk in which everything that can be told is equally likely."""
    hearers = len(reports[0]) if reports else 1
    bare = Talk(hearers, reports, tellings, [])
    chances = []
    for r, counts in enumerate(tellings):
        told = [(1, count(counts))] * count(counts)
        chances.append([[told] * count(before(bare, r) + reports[r])] * states)
    return Talk(hearers, reports, tellings, chances)


class TalkTest(unittest.TestCase):
    def test_it_keeps_lists_of_its_own(self):
        reports, tellings, chances = small_parts()
        talk = Talk(2, reports, tellings, chances)
        kept = copy.deepcopy((reports, tellings, chances))
        self.assertEqual((talk.hearers, talk.reports, talk.tellings, talk.chances), (2, *kept))
        for inner in (reports, tellings, chances):
            inner[0][0] = 9
            inner.append(9)
        chances[1][1][0][0] = 9
        chances[1][1].append(9)
        chances[1].append(9)
        self.assertEqual((talk.hearers, talk.reports, talk.tellings, talk.chances), (2, *kept))

    def test_what_it_is_made_of_stays(self):
        parts = small_parts()
        kept = copy.deepcopy(parts)
        talk = Talk(2, *parts)
        talk.reports[0].append(1)
        talk.tellings.clear()
        talk.chances[0][0][0][0] = ZERO
        talk.chances[1][1].clear()
        self.assertEqual(parts, kept)


class IsTalkTest(unittest.TestCase):
    def test_talks_of_0_to_3_rounds(self):
        numbers = source(31)
        for n in range(40):
            game = random_game(numbers)
            talk = random_talk(numbers, game, n % 4)
            kept = copy.deepcopy((vars(game), vars(talk)))
            self.assertIs(is_talk(game, talk), True)
            self.assertEqual((vars(game), vars(talk)), kept)
        self.assertIs(is_talk(bare_game(3, 2), Talk(2, [], [], [])), True)

    def test_another_number_of_hearers(self):
        self.assertIs(is_talk(bare_game(2, 2), small_talk()), True)
        self.assertIs(is_talk(bare_game(2, 1), small_talk()), False)
        self.assertIs(is_talk(bare_game(2, 3), small_talk()), False)
        self.assertIs(is_talk(bare_game(2, 2), Talk(1, [], [], [])), False)
        self.assertIs(is_talk(bare_game(2, 1), Talk(2, *small_parts())), False)
        self.assertIs(is_talk(bare_game(2, 2), Talk(3, *small_parts())), False)
        self.assertIs(is_talk(bare_game(2, 3), Talk(3, *small_parts())), False)

    def test_four_rounds(self):
        game = bare_game(1, 1)
        self.assertIs(is_talk(game, even_talk(1, [[1]] * 3, [[2]] * 3)), True)
        self.assertIs(is_talk(game, even_talk(1, [[1]] * 4, [[1]] * 4)), False)

    def test_counts(self):
        game = bare_game(2, 2)
        for reports, tellings in (([[3, 1]], [[1, 3]]), ([[1, 3]], [[3, 1]])):
            self.assertIs(is_talk(game, even_talk(2, reports, tellings)), True)
        wrong = [
            ([[4, 1]], [[1, 1]]), ([[1, 4]], [[1, 1]]), ([[1, 1]], [[4, 1]]), ([[1, 1]], [[1, 4]]),
            ([[1, 1], [1, 4]], [[1, 1], [1, 1]]), ([[1, 1], [1, 1]], [[1, 1], [4, 1]]),
        ]
        for reports, tellings in wrong:
            self.assertIs(is_talk(game, even_talk(2, reports, tellings)), False)
        for reports, tellings in (([[0, 1]], [[1, 1]]), ([[1, 0]], [[1, 1]])):
            self.assertIs(is_talk(game, Talk(2, reports, tellings, [[[], []]])), False)
        for tellings in ([[0, 1]], [[1, 0]]):
            self.assertIs(is_talk(game, Talk(2, [[1, 1]], tellings, [[[[]], [[]]]])), False)
        self.assertIs(is_talk(game, Talk(2, [[-1, -1]], [[1, 1]], [[[[ONE]], [[ONE]]]])), False)

    def test_256_histories(self):
        for hearers, reports, tellings in (
            (2, [[2, 2], [2, 2]], [[2, 2], [2, 2]]), (1, [[1], [1], [2]], [[1], [1], [2]]),
            (3, [[2, 2, 2], [1, 2, 1]], [[2, 2, 2], [1, 1, 2]]),
        ):
            game = bare_game(1, hearers)
            self.assertIs(is_talk(game, even_talk(1, reports, tellings)), True)
        self.assertEqual(len(histories(even_talk(1, [[2, 2], [2, 2]], [[2, 2], [2, 2]]))), 256)

    def test_more_than_256_histories(self):
        game = bare_game(1, 2)
        for reports, tellings, many in (
            ([[2, 2], [2, 2]], [[2, 3], [3, 1]], 288), ([[2, 2], [2, 2]], [[2, 2], [2, 3]], 384),
            ([[3, 3], [2, 2]], [[3, 3], [1, 1]], 324), ([[3, 3], [3, 1]], [[3, 3], [1, 1]], 243),
        ):
            talk = even_talk(1, reports, tellings)
            self.assertEqual(len(histories(talk)), many)
            self.assertIs(is_talk(game, talk), many <= 256)
        self.assertIs(is_talk(bare_game(1, 1), even_talk(1, [[3]] * 3, [[3], [3], [1]])), True)
        self.assertIs(is_talk(bare_game(1, 1), even_talk(1, [[3]] * 3, [[3], [3], [2]])), False)

    def wrong(self, change):
        parts = small_parts()
        change(*parts)
        self.assertIs(is_talk(bare_game(2, 2), Talk(2, *parts)), False)

    def test_a_chance_moved_or_below_0(self):
        self.wrong(lambda reports, tellings, chances: chances[0][1].__setitem__(0, [HALF, ZERO]))
        self.wrong(lambda reports, tellings, chances: chances[0][0].__setitem__(1, [HALF, ONE]))
        self.wrong(lambda reports, tellings, chances: chances[1][1].__setitem__(3, [(1, 3), (3, 5)]))
        self.wrong(lambda reports, tellings, chances: chances[1][0].__setitem__(0, [(3, 2), (-1, 2)]))
        self.wrong(lambda reports, tellings, chances: chances[0][1].__setitem__(1, [(-1, 9), (10, 9)]))

    def test_a_chance_a_list_a_state_or_a_round_too_few_or_too_many(self):
        self.wrong(lambda reports, tellings, chances: chances[0][0][0].pop())
        self.wrong(lambda reports, tellings, chances: chances[1][1].__setitem__(2, [HALF, HALF, ZERO]))
        self.wrong(lambda reports, tellings, chances: chances[1][1].__setitem__(2, []))
        self.wrong(lambda reports, tellings, chances: chances[0][1].pop())
        self.wrong(lambda reports, tellings, chances: chances[1][0].append([HALF, HALF]))
        self.wrong(lambda reports, tellings, chances: chances[1].pop())
        self.wrong(lambda reports, tellings, chances: chances[0].append(chances[0][0]))
        self.wrong(lambda reports, tellings, chances: chances.pop())
        self.wrong(lambda reports, tellings, chances: chances.append(chances[1]))
        self.wrong(lambda reports, tellings, chances: chances.clear())

    def test_a_row_of_counts_or_a_count_too_few_or_too_many(self):
        self.wrong(lambda reports, tellings, chances: reports.pop())
        self.wrong(lambda reports, tellings, chances: tellings.pop())
        self.wrong(lambda reports, tellings, chances: reports.append([1, 1]))
        self.wrong(lambda reports, tellings, chances: tellings.append([1, 1]))
        self.wrong(lambda reports, tellings, chances: reports[1].pop())
        self.wrong(lambda reports, tellings, chances: tellings[1].pop())
        self.wrong(lambda reports, tellings, chances: reports[0].append(1))
        self.wrong(lambda reports, tellings, chances: tellings[0].append(1))
        self.wrong(lambda reports, tellings, chances: reports[0].clear())
        self.wrong(lambda reports, tellings, chances: (reports.clear(), tellings.clear()))

    def test_chances_for_other_counts(self):
        self.wrong(lambda reports, tellings, chances: reports.__setitem__(0, [1, 2]) or tellings.__setitem__(
            0, [3, 1]))
        self.wrong(lambda reports, tellings, chances: reports.__setitem__(1, [2, 1]))
        self.wrong(lambda reports, tellings, chances: reports.reverse())


class HistoriesTest(unittest.TestCase):
    def test_in_order(self):
        talk = even_talk(1, [[2, 1]], [[1, 2]])
        self.assertEqual(
            histories(talk), [[0, 0, 0, 0], [0, 0, 0, 1], [1, 0, 0, 0], [1, 0, 0, 1]])
        numbers = source(32)
        for n in range(20):
            talk = random_talk(numbers, random_game(numbers), n % 4)
            self.assertEqual(histories(talk), [list(history) for history in plain_histories(talk)])
            self.assertEqual(histories(talk), sorted(histories(talk)))

    def test_no_rounds(self):
        for hearers in (1, 3):
            talk = Talk(hearers, [], [], [])
            self.assertEqual(histories(talk), [[]])
            self.assertEqual(bounds_before(talk, 0), [])
            self.assertEqual(own_bounds(talk, hearers - 1, 0), [])
            self.assertEqual(own_place(talk, hearers - 1, 0, []), 0)


class OwnHistoriesTest(unittest.TestCase):
    def test_by_hand(self):
        talk = even_talk(1, [[2, 3], [1, 2]], [[3, 1], [2, 2]])
        self.assertEqual(bounds_before(talk, 0), [])
        self.assertEqual(bounds_before(talk, 1), [2, 3, 3, 1])
        self.assertEqual(bounds_before(talk, 2), [2, 3, 3, 1, 1, 2, 2, 2])
        self.assertEqual(own_bounds(talk, 0, 0), [])
        self.assertEqual(own_bounds(talk, 0, 1), [2, 3])
        self.assertEqual(own_bounds(talk, 1, 1), [3, 1])
        self.assertEqual(own_bounds(talk, 0, 2), [2, 3, 1, 2])
        self.assertEqual(own_bounds(talk, 1, 2), [3, 1, 2, 2])
        history = [1, 2, 2, 0, 0, 1, 1, 0]
        self.assertEqual([own_place(talk, 0, r, history) for r in range(3)], [0, 5, 11])
        self.assertEqual([own_place(talk, 1, r, history) for r in range(3)], [0, 2, 10])

    def test_against_the_rounds_told_one_by_one(self):
        numbers = source(33)
        for n in range(24):
            talk = random_talk(numbers, random_game(numbers), n % 4)
            kept = copy.deepcopy(vars(talk))
            for r in range(len(talk.reports) + 1):
                self.assertEqual(bounds_before(talk, r), before(talk, r))
                for h in range(talk.hearers):
                    self.assertEqual(own_bounds(talk, h, r), own_before(talk, h, r))
                    for history in histories(talk):
                        self.assertEqual(own_place(talk, h, r, history), own_spot(talk, h, r, history))
            self.assertEqual(vars(talk), kept)

    def test_alike_exactly_if_own_reports_and_tellings_are(self):
        numbers = source(34)
        game = bare_game(1, 2)
        for reports, tellings in (
            ([[2, 1], [1, 2]], [[1, 2], [2, 1]]), ([[3, 2]], [[2, 3]]), ([[1, 1], [2, 2], [1, 1]], [[2, 2], [1, 1], [2, 1]]),
        ):
            talk = talk_of(numbers, game, reports, tellings)
            for h in range(2):
                for r in range(len(reports) + 1):
                    seen = {}
                    for history in histories(talk):
                        own = tuple((told[0][h], told[1][h]) for told in told_rounds(talk, history)[:r])
                        seen.setdefault(own_place(talk, h, r, history), set()).add(own)
                    self.assertTrue(all(len(alike) == 1 for alike in seen.values()))
                    self.assertEqual(len(seen), len(set().union(*seen.values())))
                    self.assertEqual(sorted(seen), list(range(len(all_rows(own_bounds(talk, h, r))))))


if __name__ == "__main__":
    unittest.main()
