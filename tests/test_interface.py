"""The names and arguments of the interface, each defined in the file under which it is listed."""

import importlib
import inspect
import unittest

FUNCTIONS = {
    "ratio": {
        "ratio": "p q", "add": "a b", "sub": "a b", "mul": "a b", "neg": "a", "div": "a b",
        "less": "a b", "at_most": "a b", "added": "numbers", "dot": "a b",
    },
    "draws": {
        "size": "bounds", "place": "bounds row", "row_at": "bounds at", "rows": "bounds",
        "unit": "at many", "are_chances": "numbers", "together": "lists", "mean": "chances numbers",
    },
    "houses": {
        "parse_house": "text", "format_house": "house", "kind_counts": "house", "act_counts": "house",
    },
    "events": {
        "parse_event": "house text", "format_event": "house event", "holds": "event state kinds acts",
    },
    "rules": {"is_rule": "game rule", "mixed": "rule other part"},
    "means": {
        "total": "game rule who", "kind_total": "game rule h i", "kind_weight": "game h i",
        "means": "game rule",
    },
    "lies": {
        "told_total": "game rule h i said told act", "lie_total": "game rule h i said done",
        "best_lie": "game rule h i said", "gaining_lie": "game rule", "honest": "game rule",
        "mixed_lie_total": "game rule h i says does",
    },
    "liepapers": {"lie_paper": "game rule", "judge_lies": "game rule paper"},
    "talks": {
        "is_talk": "game talk", "histories": "talk", "own_place": "talk h r history",
        "own_bounds": "talk h r", "bounds_before": "talk r",
    },
    "plans": {
        "are_plans": "game talk plans", "telling_chance": "talk state history",
        "history_chance": "talk plans state kinds history", "with_plan": "plans h i plan",
    },
    "got": {"got_total": "game talk plans who", "got_kind_total": "game talk plans h i"},
    "coming": {"rule_of": "game talk plans", "direct": "game rule"},
    "changing": {
        "with_silence": "game talk r", "silent_plans": "talk plans r", "renamed": "talk h r order",
        "renamed_plans": "talk plans h r order", "pasted": "talk other",
        "pasted_plans": "talk plans other other_plans",
    },
    "replies": {
        "end_values": "game talk plans h i", "reply": "game talk plans h i",
        "gaining_plan": "game talk plans", "judge_plans": "game talk plans",
    },
    "replypapers": {
        "reply_paper": "game talk plans h i", "judge_reply": "game talk plans h i value paper",
    },
    "mimic": {"mimic": "game plans h said done", "answer": "game talk plans"},
    "programs": {"solve": "costs lines"},
    "terms": {
        "free_terms": "game", "cell_states": "terms", "lies_asked": "game terms",
        "keeps_terms": "game terms rule",
    },
    "moving": {"most": "game terms aims"},
    "movepapers": {"judge_most": "game terms aims value paper", "judge_nothing": "game terms paper"},
    "orders": {"looser": "terms other", "least_trusted": "game terms aims value"},
    "margins": {
        "losses": "game rule lie", "margin": "game rule", "wrong_weights": "game rule lie part",
        "reweighed": "game weights",
    },
    "budgets": {
        "choices": "game budget", "budget_most": "game aims budget", "frontier": "game aims value",
    },
    "desk": {"replay": "house journal"},
    "beliefs": {
        "best_acts": "game piece", "piece_act": "game piece", "piece_value": "game piece",
        "is_split": "game pieces", "split_total": "game pieces", "best_split": "game",
        "judge_plane": "game plane value", "split_talk": "game pieces",
    },
}

CLASSES = {
    "errors": {"TalkError": {}, "BadText": {}, "UnknownName": {}, "NotAllowed": {}},
    "houses": {"House": {"__init__": "states hearers"}},
    "game": {"Game": {"__init__": "states kinds acts weights pays"}},
    "talks": {"Talk": {"__init__": "hearers reports tellings chances"}},
    "terms": {"Terms": {"__init__": "cells seen trusted told floors"}},
    "cases": {
        "Case": {
            "__init__": "house", "weigh": "state kinds weight", "weights": "", "gain": "who amount event",
            "strike": "index", "gains": "", "game": "",
        },
    },
    "desk": {
        "Desk": {
            "__init__": "house", "do": "entry", "game": "", "standing": "", "changes": "entry",
            "touches": "entry paper", "judge_side": "side value paper", "journal": "",
        },
    },
}


def parameters(function):
    return " ".join(name for name in inspect.signature(function).parameters if name != "self")


class InterfaceTest(unittest.TestCase):
    def test_functions(self):
        for file, functions in FUNCTIONS.items():
            module = importlib.import_module(f"talkmost.{file}")
            for name, wanted in functions.items():
                function = getattr(module, name)
                self.assertTrue(inspect.isfunction(function), name)
                self.assertEqual(function.__module__, module.__name__)
                self.assertEqual(parameters(function), wanted, name)

    def test_classes(self):
        for file, classes in CLASSES.items():
            module = importlib.import_module(f"talkmost.{file}")
            for name, methods in classes.items():
                made = getattr(module, name)
                self.assertTrue(inspect.isclass(made), name)
                self.assertEqual(made.__module__, module.__name__)
                for method, wanted in methods.items():
                    self.assertEqual(parameters(vars(made)[method]), wanted, f"{name}.{method}")


if __name__ == "__main__":
    unittest.main()
