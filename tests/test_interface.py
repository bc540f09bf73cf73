"""The interface: its names, where they are defined, and the names of their parameters."""

import inspect
import unittest

from apartcalls import backs, nets, orders, rooms, rounds, turns

FUNCTIONS = {
    nets: {"parts": ["seats", "ties"], "is_wood": ["seats", "ties"], "is_row": ["seats", "ties"]},
    orders: {
        "breaks": ["order"], "least_order": ["count", "broken"], "are_alike": ["order", "other"],
        "count_alike": ["order"], "order_counts": ["count"],
    },
    rounds: {
        "called": ["seats", "ties", "standing", "calls"],
        "after_rounds": ["seats", "ties", "standing", "order", ("many", 1)],
    },
    backs: {
        "back_after": ["seats", "ties", "standing", "order"], "backs_counted": ["seats", "ties", "order"],
        "all_back": ["seats", "ties", "order"], "fixed_after": ["seats", "ties", "order", "many"],
    },
    turns: {"fewest_turns": ["order", "other"], "turns": ["order", "other"]},
}
METHODS = {
    "__init__": ["self", "seats", "ties", "standing"], "__len__": ["self"], "call": ["self", "number"],
    "round": ["self", "order"], "round_back": ["self", "order"], "run": ["self", "calls"], "undo": ["self"],
}
PROPERTIES = ["seats", "ties", "standing", "changes"]


class TestInterface(unittest.TestCase):
    def check_parameters(self, function, wanted):
        self.assertTrue(inspect.isfunction(function))
        parameters = inspect.signature(function).parameters.values()
        told = [one.name if one.default is one.empty else (one.name, one.default) for one in parameters]
        self.assertEqual(told, wanted)
        for one in parameters:
            self.assertIs(one.kind, one.POSITIONAL_OR_KEYWORD)

    def test_each_function_is_defined_in_its_file_with_its_parameters(self):
        for module, functions in FUNCTIONS.items():
            for name, wanted in functions.items():
                with self.subTest(name=name):
                    function = getattr(module, name)
                    self.assertEqual(function.__module__, module.__name__)
                    self.check_parameters(function, wanted)

    def test_the_class_is_defined_in_its_file_with_its_methods(self):
        self.assertEqual(rooms.Room.__module__, rooms.__name__)
        own = vars(rooms.Room)
        for name, wanted in METHODS.items():
            with self.subTest(name=name):
                self.check_parameters(own[name], wanted)
        for name in PROPERTIES:
            with self.subTest(name=name):
                self.assertIsInstance(own[name], property)
        self.assertTrue(inspect.isgeneratorfunction(own["run"]))
