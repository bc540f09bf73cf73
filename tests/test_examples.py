"""The examples of the document, as written there."""

import doctest
import unittest

NETS = """
>>> from apartcalls.nets import is_row, is_wood, parts
>>> parts(5, [[4, 2], [5, 4]]), is_wood(5, [[4, 2], [5, 4]]), is_row(4, [[2, 4], [1, 3], [4, 1]]), is_row(4, [[1, 2], [1, 3], [1, 4]])
([[1], [2, 4, 5], [3]], True, True, False)
"""

ORDERS = """
>>> from apartcalls.orders import are_alike, breaks, count_alike, least_order, order_counts
>>> breaks([1, 2, 3, 4]), breaks([1, 3, 2, 4]), least_order(5, [4, 2]), are_alike([1, 3, 2, 4], [3, 1, 2, 4]), count_alike([1, 3, 2, 4])
([4], [2, 4], [3, 5, 1, 2, 4], True, 4)
>>> order_counts(3), order_counts(5)
([3, 3], [5, 55, 55, 5])
"""


class TestExamples(unittest.TestCase):
    def run_all(self, text, name):
        test = doctest.DocTestParser().get_doctest(text, {}, name, None, 0)
        told = []
        result = doctest.DocTestRunner(verbose=False).run(test, out=told.append)
        self.assertEqual(result.failed, 0, "".join(told))
        return result.attempted

    def test_nets(self):
        self.assertEqual(self.run_all(NETS, "nets"), 2)

    def test_orders(self):
        self.assertEqual(self.run_all(ORDERS, "orders"), 3)
