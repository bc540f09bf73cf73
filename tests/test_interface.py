"""The interface: its names, where they are defined, and the names of their parameters."""

import inspect
import unittest

from apartcalls import nets, orders

FUNCTIONS = {
    nets: {"parts": ["seats", "ties"], "is_wood": ["seats", "ties"], "is_row": ["seats", "ties"]},
    orders: {
        "breaks": ["order"], "least_order": ["count", "broken"], "are_alike": ["order", "other"],
        "count_alike": ["order"], "order_counts": ["count"],
    },
}


class TestInterface(unittest.TestCase):
    def test_each_function_is_defined_in_its_file_with_its_parameters(self):
        for module, functions in FUNCTIONS.items():
            for name, wanted in functions.items():
                with self.subTest(name=name):
                    function = getattr(module, name)
                    self.assertEqual(function.__module__, module.__name__)
                    self.assertTrue(inspect.isfunction(function))
                    parameters = inspect.signature(function).parameters.values()
                    self.assertEqual([one.name for one in parameters], wanted)
                    for one in parameters:
                        self.assertIs(one.kind, one.POSITIONAL_OR_KEYWORD)
                        self.assertIs(one.default, one.empty)
