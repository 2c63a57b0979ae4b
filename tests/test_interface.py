"""The names, arguments and places that the interface lists."""

import importlib
import inspect
import unittest

POSITIONAL = inspect.Parameter.POSITIONAL_OR_KEYWORD
KEYWORD_ONLY = inspect.Parameter.KEYWORD_ONLY

# Each function with its positional parameters and whether it takes pins by keyword.
FUNCTIONS = {
    "markring.rings": {
        "find_steps": (["marks"], False),
        "build_ring": (["first", "steps"], False),
        "find_modulus": (["marks"], False),
    },
    "markring.moves": {
        "apply_moves": (["marks", "seats"], True),
        "active_seats": (["marks"], True),
    },
    "markring.reachability": {
        "find_difference": (["first", "second"], False),
        "find_moves": (["first", "second"], False),
    },
    "markring.distance": {
        "shortest_moves": (["first", "second", "limit"], False),
        "min_moves": (["first", "second", "limit"], False),
    },
    "markring.pinned": {
        "find_arcs": (["marks", "pins"], False),
        "find_pinned_difference": (["first", "second", "pins"], False),
        "pinned_moves": (["first", "second", "pins"], False),
        "count_pinned": (["marks", "pins"], False),
        "rank_pinned": (["marks", "pins"], False),
        "pinned_at": (["marks", "pins", "rank"], False),
        "possible_marks": (["marks", "pins", "seat"], False),
    },
}


def listed_functions():
    for file, functions in FUNCTIONS.items():
        module = importlib.import_module(file)
        for name, (positional, with_pins) in functions.items():
            yield file, getattr(module, name), positional, with_pins


class InterfaceTest(unittest.TestCase):
    def test_defined_in_the_listed_file(self):
        for file, function, _, _ in listed_functions():
            self.assertTrue(inspect.isfunction(function), function)
            self.assertEqual(function.__module__, file)

    def test_parameters(self):
        for _, function, positional, with_pins in listed_functions():
            parameters = inspect.signature(function).parameters.values()
            found = [each.name for each in parameters if each.kind == POSITIONAL]
            self.assertEqual(found, positional, function)
            others = [each for each in parameters if each.kind != POSITIONAL]
            self.assertEqual([each.name for each in others], ["pins"] * with_pins, function)
            for each in others:
                self.assertEqual(each.kind, KEYWORD_ONLY, function)
                self.assertEqual(each.default, (), function)


if __name__ == "__main__":
    unittest.main()
