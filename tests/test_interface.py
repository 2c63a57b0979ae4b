"""The names, arguments and places that the interface lists."""

import importlib
import inspect
import unittest

POSITIONAL = inspect.Parameter.POSITIONAL_OR_KEYWORD
KEYWORD_ONLY = inspect.Parameter.KEYWORD_ONLY

# Each function with its positional parameters and whether it takes pins by keyword.
FUNCTIONS = {
    "markring.rings": {
        "find_steps": (["marks"], False),
        "build_ring": (["first", "steps"], False),
        "find_modulus": (["marks"], False),
    },
    "markring.moves": {
        "apply_moves": (["marks", "seats"], True),
        "active_seats": (["marks"], True),
    },
    "markring.reachability": {
        "find_difference": (["first", "second"], False),
        "find_moves": (["first", "second"], False),
    },
    "markring.distance": {
        "shortest_moves": (["first", "second", "limit"], False),
        "min_moves": (["first", "second", "limit"], False),
    },
    "markring.pinned": {
        "find_arcs": (["marks", "pins"], False),
        "find_pinned_difference": (["first", "second", "pins"], False),
        "pinned_moves": (["first", "second", "pins"], False),
        "count_pinned": (["marks", "pins"], False),
        "rank_pinned": (["marks", "pins"], False),
        "pinned_at": (["marks", "pins", "rank"], False),
        "possible_marks": (["marks", "pins", "seat"], False),
    },
    "markring.blocks": {
        "repeat_block": (["marks", "block", "times"], False),
        "block_drift": (["marks", "block"], False),
        "block_period": (["marks", "block"], False),
        "first_time": (["marks", "block", "seat", "mark"], False),
        "is_identity": (["length", "block"], False),
    },
    "markring.workbench": {
        "replay": (["marks", "operations"], False),
    },
    "markring.textio": {
        "format_session": (["marks", "operations"], False),
        "parse_session": (["text"], False),
    },
}

# Each class with its methods and their parameters without the object itself.
CLASSES = {
    ("markring.inference", "HiddenRing"): {
        "__init__": ["marks", "pins"],
        "observe_mark": ["seat", "mark"],
        "observe_sign": ["seat", "sign"],
        "candidates": [],
        "marks_at": ["seat"],
        "known_marks": [],
        "differing_pair": ["seat"],
        "best_seat": [],
        "history": [],
    },
    ("markring.workbench", "Workbench"): {
        "__init__": ["marks"],
        "reflect": ["seat"],
        "pin": ["pins"],
        "shift": ["amount"],
        "turn": ["count"],
        "repeat": ["block", "times"],
        "undo": [],
        "redo": [],
        "ring": [],
        "pinned": [],
        "operations": [],
        "reaches": ["marks"],
        "save": ["name"],
        "restore": ["name"],
        "batch": ["operations"],
    },
}


def listed_functions():
    for file, functions in FUNCTIONS.items():
        module = importlib.import_module(file)
        for name, (positional, with_pins) in functions.items():
            yield file, getattr(module, name), positional, with_pins


class InterfaceTest(unittest.TestCase):
    def test_defined_in_the_listed_file(self):
        for file, function, _, _ in listed_functions():
            self.assertTrue(inspect.isfunction(function), function)
            self.assertEqual(function.__module__, file)

    def test_parameters(self):
        for _, function, positional, with_pins in listed_functions():
            parameters = inspect.signature(function).parameters.values()
            found = [each.name for each in parameters if each.kind == POSITIONAL]
            self.assertEqual(found, positional, function)
            others = [each for each in parameters if each.kind != POSITIONAL]
            self.assertEqual([each.name for each in others], ["pins"] * with_pins, function)
            for each in others:
                self.assertEqual(each.kind, KEYWORD_ONLY, function)
                self.assertEqual(each.default, (), function)

    def test_classes(self):
        for (file, name), methods in CLASSES.items():
            found = getattr(importlib.import_module(file), name)
            self.assertTrue(inspect.isclass(found), name)
            self.assertEqual(found.__module__, file)
            for method, expected in methods.items():
                # In the class itself, not in a base class.
                function = vars(found)[method]
                self.assertTrue(inspect.isfunction(function), method)
                parameters = list(inspect.signature(function).parameters.values())[1:]
                self.assertEqual([each.name for each in parameters], expected, method)
                for each in parameters:
                    self.assertEqual((each.kind, each.default), (POSITIONAL, inspect.Parameter.empty))


if __name__ == "__main__":
    unittest.main()
