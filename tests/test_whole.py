"""What the document promises over the whole program, function by function."""

import copy
import importlib
import subprocess
import sys
import unittest
from pathlib import Path

from games import count, is_lowest, random_aims, random_number, random_rule, small_game, source
from papers import random_floors, random_told
from talking import random_plan, random_plans, random_talk
from talkmost.beliefs import best_split
from talkmost.cases import Case
from talkmost.coming import direct
from talkmost.desk import Desk
from talkmost.events import parse_event
from talkmost.game import Game
from talkmost.houses import House, format_house, parse_house
from talkmost.liepapers import lie_paper
from talkmost.moving import most
from talkmost.replypapers import reply_paper
from talkmost.talks import Talk
from talkmost.terms import Terms, free_terms
from test_beliefs import random_game as game_of_beliefs
from test_beliefs import random_piece, random_split
from test_interface import CLASSES, FUNCTIONS

ZERO, ONE, HALF = (0, 1), (1, 1), (1, 2)
ROOT = Path(__file__).resolve().parent.parent
HOUSE = "house states a b end hearer x kinds i j acts p q end hearer y kinds k acts p q r end end"


def opened(item):
    """The item, with the attributes of objects in place of the objects."""
    if isinstance(item, (Game, House, Talk, Terms, Case)):
        return [opened(part) for part in vars(item).values()]
    if isinstance(item, Desk):
        return [opened(item.game()), item.standing(), item.journal()]
    if isinstance(item, list):
        return [opened(part) for part in item]
    if isinstance(item, tuple):
        return tuple([opened(part) for part in item])
    return item


def number_calls(numbers):
    a, b = random_number(numbers, -9, 9), random_number(numbers, 1, 9)
    for name in ("add", "sub", "mul", "div", "less", "at_most"):
        yield "ratio", name, [a, b]
    yield "ratio", "ratio", [numbers.randint(-99, 99), -6]
    yield "ratio", "neg", [a]
    yield "ratio", "added", [[a, b, a]]
    yield "ratio", "dot", [[a, b], [b, b]]
    yield "draws", "size", [[2, 3]]
    yield "draws", "place", [[2, 3], [1, 1]]
    yield "draws", "row_at", [[2, 3], 4]
    yield "draws", "rows", [[2, 3]]
    yield "draws", "unit", [1, 3]
    yield "draws", "are_chances", [[HALF, HALF]]
    yield "draws", "together", [[[HALF, HALF], [ONE], [(1, 3), (2, 3)]]]
    yield "draws", "mean", [[HALF, HALF], [a, b]]


def house_calls(numbers):
    house = parse_house(HOUSE)
    event = parse_event(house, "state b x is j y does r")
    yield "houses", "parse_house", [HOUSE]
    for name in ("format_house", "kind_counts", "act_counts"):
        yield "houses", name, [house]
    yield "events", "parse_event", [house, "y does q x is i"]
    yield "events", "format_event", [house, event]
    yield "events", "holds", [event, 1, [1, 0], [numbers.randint(0, 1), 2]]
    journal = [("weigh", "b", ["j", "k"], HALF), ("gain", "y", HALF, "x does p"), ("ask", "low", "least")]
    yield "desk", "replay", [house, journal]


def rule_calls(numbers, game, rule, other):
    h = numbers.randrange(len(game.kinds))
    i, said = numbers.randrange(game.kinds[h]), numbers.randrange(game.kinds[h])
    done = [numbers.randrange(game.acts[h]) for _ in range(game.acts[h])]
    told, act = done[0], done[-1]
    yield "rules", "is_rule", [game, rule]
    yield "rules", "mixed", [rule, other, (2, 7)]
    yield "means", "total", [game, rule, h + 1]
    yield "means", "kind_total", [game, rule, h, i]
    yield "means", "kind_weight", [game, h, i]
    yield "means", "means", [game, rule]
    yield "lies", "told_total", [game, rule, h, i, said, told, act]
    yield "lies", "lie_total", [game, rule, h, i, said, done]
    yield "lies", "best_lie", [game, rule, h, i, said]
    yield "lies", "gaining_lie", [game, rule]
    yield "lies", "honest", [game, rule]
    chances = [(1, many) for many in (game.kinds[h], game.acts[h])]
    says, does = [[chance] * chance[1] for chance in chances]
    yield "lies", "mixed_lie_total", [game, rule, h, i, says, [[does] * game.acts[h]] * game.kinds[h]]
    yield "liepapers", "lie_paper", [game, rule]
    paper = lie_paper(game, rule) or [
        [[[ONE] * acts] * kinds] * kinds for kinds, acts in zip(game.kinds, game.acts)]
    yield "liepapers", "judge_lies", [game, rule, paper]
    yield "margins", "losses", [game, rule, (h, i, said, done)]
    yield "margins", "margin", [game, rule]
    yield "margins", "wrong_weights", [game, rule, (h, i, said, done), (2, 7)]
    yield "margins", "reweighed", [game, [[ONE] * count(game.kinds)] * game.states]
    yield "coming", "direct", [game, rule]


def talk_calls(numbers, game, talk, plans):
    rounds = len(talk.reports)
    h = numbers.randrange(len(game.kinds))
    i = numbers.randrange(game.kinds[h])
    history = [0] * (2 * talk.hearers * rounds)
    yield "talks", "is_talk", [game, talk]
    yield "talks", "histories", [talk]
    yield "talks", "own_place", [talk, h, rounds, history]
    yield "talks", "own_bounds", [talk, h, rounds]
    yield "talks", "bounds_before", [talk, rounds]
    yield "plans", "are_plans", [game, talk, plans]
    yield "plans", "telling_chance", [talk, 0, history]
    yield "plans", "history_chance", [talk, plans, 0, [0] * talk.hearers, history]
    yield "plans", "with_plan", [plans, h, i, random_plan(numbers, game, talk, h)]
    yield "got", "got_total", [game, talk, plans, 0]
    yield "got", "got_kind_total", [game, talk, plans, h, i]
    yield "coming", "rule_of", [game, talk, plans]
    yield "changing", "with_silence", [game, talk, rounds]
    yield "changing", "silent_plans", [talk, plans, 0]
    order = list(range(talk.tellings[0][h]))[::-1]
    yield "changing", "renamed", [talk, h, 0, order]
    yield "changing", "renamed_plans", [talk, plans, h, 0, order]
    other, other_plans = direct(game, random_rule(numbers, game))
    yield "changing", "pasted", [talk, other]
    yield "changing", "pasted_plans", [talk, plans, other, other_plans]
    for name in ("end_values", "reply"):
        yield "replies", name, [game, talk, plans, h, i]
    yield "replies", "gaining_plan", [game, talk, plans]
    yield "replies", "judge_plans", [game, talk, plans]
    yield "replypapers", "reply_paper", [game, talk, plans, h, i]
    paper = reply_paper(game, talk, plans, h, i)
    yield "replypapers", "judge_reply", [game, talk, plans, h, i, (5, 1), paper]
    yield "mimic", "mimic", [game, plans, h, i, [0] * game.acts[h]]
    yield "mimic", "answer", [game, talk, plans]


def aim_calls(numbers, game, rule):
    told = random_told(numbers, game)
    terms = Terms([0] * game.states, numbers.random() < 0.5, [0], told, random_floors(numbers, game))
    aims = random_aims(numbers, game)
    free = free_terms(game)
    paper = most(game, free, aims)[-1]
    costs = [random_number(numbers, -3, 3) for _ in range(4)]
    lines = [
        ([random_number(numbers, -5, 5) for _ in costs], numbers.choice(["least", "equal", "most"]),
         random_number(numbers, -5, 5)) for _ in range(4)]
    yield "programs", "solve", [costs, lines]
    yield "terms", "free_terms", [game]
    yield "terms", "cell_states", [terms]
    yield "terms", "lies_asked", [game, terms]
    yield "terms", "keeps_terms", [game, terms, rule]
    yield "moving", "most", [game, terms, aims]
    yield "movepapers", "judge_most", [game, free, aims, (9, 1), paper]
    yield "movepapers", "judge_nothing", [game, free, paper]
    yield "orders", "looser", [terms, free]
    yield "orders", "least_trusted", [game, terms, aims, ONE]
    budget = [1] * len(game.acts)
    yield "budgets", "choices", [game, budget]
    yield "budgets", "budget_most", [game, aims, budget]
    yield "budgets", "frontier", [game, aims, ONE]


def belief_calls(numbers, game):
    piece = random_piece(numbers, game)
    pieces = random_split(numbers, game, numbers.randint(1, 3))
    for name in ("best_acts", "piece_act", "piece_value"):
        yield "beliefs", name, [game, piece]
    for name in ("is_split", "split_total", "split_talk"):
        yield "beliefs", name, [game, pieces]
    yield "beliefs", "best_split", [game]
    value, _, plane = best_split(game)
    yield "beliefs", "judge_plane", [game, plane, value]


def all_calls(seed):
    numbers = source(seed)
    game = small_game(numbers, 12)
    rule = random_rule(numbers, game)
    if seed % 2:
        rule = most(game, free_terms(game), random_aims(numbers, game))[2]
    talk = random_talk(numbers, game, 1, 8)
    plans = random_plans(numbers, game, talk)
    calls = [number_calls(numbers), house_calls(numbers), rule_calls(numbers, game, rule, random_rule(numbers, game)),
             talk_calls(numbers, game, talk, plans), aim_calls(numbers, game, rule),
             belief_calls(numbers, game_of_beliefs(numbers))]
    return [call for some in calls for call in some]


class FunctionsTest(unittest.TestCase):
    def test_each_function(self):
        for seed in range(400, 425):
            called = set()
            for file, name, arguments in all_calls(seed):
                function = getattr(importlib.import_module(f"talkmost.{file}"), name)
                kept = copy.deepcopy(opened(arguments))
                found = opened(function(*arguments))
                self.assertEqual(opened(arguments), kept, name)
                self.assertEqual(opened(function(*arguments)), found, name)
                self.assertEqual(opened(arguments), kept, name)
                self.assertTrue(is_lowest(found), (name, found))
                called.add((file, name))
            self.assertEqual(called, {(file, name) for file, named in FUNCTIONS.items() for name in named})

    def test_each_method(self):
        house = parse_house(HOUSE)
        for made in (Case(house), Desk(house)):
            self.assertIs(made.house, house)
        kinds, entry, word = ["i", "k"], ("weigh", "a", ["i", "k"], HALF), "state b"
        case, desk = Case(house), Desk(house)
        for method, arguments in [(case.weigh, ["a", kinds, HALF]), (case.gain, ["x", ONE, word]), (case.strike, [0]),
                                  (desk.do, [entry])]:
            kept = copy.deepcopy(arguments)
            self.assertIsNone(method(*arguments))
            self.assertEqual(arguments, kept)
        self.assertEqual(format_house(house), HOUSE)

    def test_lists_that_methods_return_are_new(self):
        case, desk = Case(parse_house(HOUSE)), Desk(parse_house(HOUSE))
        case.gain("x", ONE, "state a")
        for entry in [("weigh", "a", ["i", "k"], HALF), ("ask", "high", "most")]:
            desk.do(entry)
        for method in (case.weights, case.gains, desk.standing, desk.journal):
            kept = copy.deepcopy(method())
            for item in method():
                for part in item:
                    if isinstance(part, list):
                        part.clear()
            method().clear()
            self.assertEqual(method(), kept)


class OutsideTest(unittest.TestCase):
    def test_nothing_from_outside(self):
        """A fresh Python that takes in the whole package takes in nothing else, but what counts alone."""
        files = sorted(path.stem for path in (ROOT / "talkmost").glob("*.py") if path.stem != "__init__")
        self.assertTrue(set(FUNCTIONS) | set(CLASSES) <= set(files))
        program = (
            f"import sys\nsys.path.insert(0, {str(ROOT)!r})\nbefore = set(sys.modules)\n"
            + "".join(f"import talkmost.{file}\n" for file in files)
            + "print(*sorted(set(sys.modules) - before))\n")
        done = subprocess.run([sys.executable, "-I", "-S", "-B", "-c", program], capture_output=True, text=True, check=True)
        taken = [name for name in done.stdout.split() if name.split(".")[0] != "talkmost"]
        self.assertLessEqual(set(taken), {"math", "itertools"})


if __name__ == "__main__":
    unittest.main()
