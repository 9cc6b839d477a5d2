"""The names and arguments of the interface, each defined in the file under which it is listed."""

import importlib
import inspect
import unittest

FUNCTIONS = {
    "ratio": {
        "ratio": "p q", "add": "a b", "sub": "a b", "mul": "a b", "neg": "a", "div": "a b",
        "less": "a b", "at_most": "a b", "added": "numbers", "dot": "a b",
    },
    "draws": {
        "size": "bounds", "place": "bounds row", "row_at": "bounds at", "rows": "bounds",
        "unit": "at many", "are_chances": "numbers", "together": "lists", "mean": "chances numbers",
    },
    "houses": {
        "parse_house": "text", "format_house": "house", "kind_counts": "house", "act_counts": "house",
    },
    "events": {
        "parse_event": "house text", "format_event": "house event", "holds": "event state kinds acts",
    },
    "rules": {"is_rule": "game rule", "mixed": "rule other part"},
    "means": {
        "total": "game rule who", "kind_total": "game rule h i", "kind_weight": "game h i",
        "means": "game rule",
    },
}

CLASSES = {
    "errors": {"TalkError": {}, "BadText": {}, "UnknownName": {}, "NotAllowed": {}},
    "houses": {"House": {"__init__": "states hearers"}},
    "game": {"Game": {"__init__": "states kinds acts weights pays"}},
    "cases": {
        "Case": {
            "__init__": "house", "weigh": "state kinds weight", "weights": "", "gain": "who amount event",
            "strike": "index", "gains": "", "game": "",
        },
    },
}


def parameters(function):
    return " ".join(name for name in inspect.signature(function).parameters if name != "self")


class InterfaceTest(unittest.TestCase):
    def test_functions(self):
        for file, functions in FUNCTIONS.items():
            module = importlib.import_module(f"talkmost.{file}")
            for name, wanted in functions.items():
                function = getattr(module, name)
                self.assertTrue(inspect.isfunction(function), name)
                self.assertEqual(function.__module__, module.__name__)
                self.assertEqual(parameters(function), wanted, name)

    def test_classes(self):
        for file, classes in CLASSES.items():
            module = importlib.import_module(f"talkmost.{file}")
            for name, methods in classes.items():
                made = getattr(module, name)
                self.assertTrue(inspect.isclass(made), name)
                self.assertEqual(made.__module__, module.__name__)
                for method, wanted in methods.items():
                    self.assertEqual(parameters(vars(made)[method]), wanted, f"{name}.{method}")


if __name__ == "__main__":
    unittest.main()
