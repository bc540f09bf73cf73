"""The examples of the document, as written there."""

import doctest
import unittest

NETS = """
>>> from apartcalls.nets import is_row, is_wood, parts
>>> parts(5, [[4, 2], [5, 4]]), is_wood(5, [[4, 2], [5, 4]]), is_row(4, [[2, 4], [1, 3], [4, 1]]), is_row(4, [[1, 2], [1, 3], [1, 4]])
([[1], [2, 4, 5], [3]], True, True, False)
"""

ORDERS = """
>>> from apartcalls.orders import are_alike, breaks, count_alike, least_order, order_counts
>>> breaks([1, 2, 3, 4]), breaks([1, 3, 2, 4]), least_order(5, [4, 2]), are_alike([1, 3, 2, 4], [3, 1, 2, 4]), count_alike([1, 3, 2, 4])
([4], [2, 4], [3, 5, 1, 2, 4], True, 4)
>>> order_counts(3), order_counts(5)
([3, 3], [5, 55, 55, 5])
"""

ROUNDS = """
>>> from apartcalls.rounds import after_rounds, called
>>> row = [[1, 2], [2, 3], [3, 4]]
>>> called(4, row, [1, 2, 3, 4], [4, 4, 4]), after_rounds(4, row, [1, 2, 3, 4], [1, 3, 2, 4]), after_rounds(4, row, [1, 2, 3, 4], [1, 3, 2, 4], 2)
([4, 2, 3, 1], [4, 2, 3, 1], [2, 1, 4, 3])
>>> after_rounds(4, row, [4, 2, 3, 1], [1, 3, 2, 4], -1), after_rounds(4, row, [1, 2, 3, 4], [1, 3, 2, 4], 10 ** 30 + 2), after_rounds(3, [], [1, 2, 3], [1, 2, 3])
([1, 2, 3, 4], [2, 1, 4, 3], [1, 3, 2])
"""

BACKS = """
>>> from apartcalls.backs import all_back, back_after, backs_counted, fixed_after
>>> row = [[1, 2], [2, 3], [3, 4]]
>>> back_after(4, row, [1, 2, 3, 4], [1, 3, 2, 4]), back_after(4, row, [1, 2, 4, 3], [1, 3, 2, 4]), backs_counted(4, row, [1, 3, 2, 4]), all_back(4, row, [1, 3, 2, 4])
(4, 2, [(2, 8), (4, 16)], 4)
>>> back_after(4, [[1, 2], [3, 4]], [1, 2, 3, 4], [1, 2, 3, 4]), backs_counted(3, [[1, 2]], [1, 2, 3]), fixed_after(3, [[1, 2]], [1, 2, 3], -2), backs_counted(5, [], [5, 4, 2, 1, 3])
(3, [(2, 2), (4, 4)], 2, [(6, 120)])
"""

TURNS = """
>>> from apartcalls.turns import fewest_turns, turns
>>> fewest_turns([1, 2, 3, 4], [3, 4, 1, 2]), turns([1, 2, 3, 4, 5], [2, 3, 4, 5, 1]), turns([1, 3, 2, 4], [1, 2, 3, 4]), turns([1, 3, 2, 4], [3, 1, 4, 2])
(2, [1], None, [])
"""

ROOMS = """
>>> from apartcalls.rooms import Room
>>> room = Room(4, [[1, 2], [2, 3], [3, 4]], [1, 2, 3, 4])
>>> room.call(1), room.call(4), room.standing, room.round([1, 3, 2, 4]), room.standing, room.changes
(False, True, [4, 2, 3, 1], 3, [2, 1, 4, 3], 4)
>>> list(room.run([2, 1])), room.undo(), room.undo(), room.undo(), room.standing, len(room), room.round_back([1, 3, 2, 4])
([[3, 1, 4, 2], [3, 2, 4, 1]], None, None, None, [4, 2, 3, 1], 2, 1)
"""


class TestExamples(unittest.TestCase):
    def run_all(self, text, name):
        test = doctest.DocTestParser().get_doctest(text, {}, name, None, 0)
        told = []
        result = doctest.DocTestRunner(verbose=False).run(test, out=told.append)
        self.assertEqual(result.failed, 0, "".join(told))
        return result.attempted

    def test_nets(self):
        self.assertEqual(self.run_all(NETS, "nets"), 2)

    def test_orders(self):
        self.assertEqual(self.run_all(ORDERS, "orders"), 3)

    def test_rounds(self):
        self.assertEqual(self.run_all(ROUNDS, "rounds"), 4)

    def test_backs(self):
        self.assertEqual(self.run_all(BACKS, "backs"), 4)

    def test_turns(self):
        self.assertEqual(self.run_all(TURNS, "turns"), 2)

    def test_rooms(self):
        self.assertEqual(self.run_all(ROOMS, "rooms"), 4)
