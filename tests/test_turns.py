"""Promises [2], [3] and [9]: orders that are turned on to other ones."""

import random
import time
import unittest

from apartcalls.errors import InvalidOrder
from apartcalls.turns import fewest_turns, turns
from tests.model import (
    all_broken, behind, breaks_by_words, order_with, orders, orders_by_breaks, some_net, some_order, turned,
)
from tests.things import Touchy, check_index, check_result, no_lists, no_members, no_standings, raised

UP40 = list(range(1, 41))


def ways_between(count):
    """For the breaks of each order, the breaks that it has when it, or one that is alike, is turned on once."""
    return {
        broken: {
            tuple(breaks_by_words(other))
            for order in alike for other in (order[1:] + order[:1], order[-1:] + order[:-1])
        }
        for broken, alike in orders_by_breaks(count).items()
    }


def fewest_from(broken, ways):
    """For all breaks that one comes to from these, how often one must turn on."""
    found = {broken: 0}
    waiting = [broken]
    for here in waiting:
        for there in ways[here]:
            if there not in found:
                found[there] = found[here] + 1
                waiting.append(there)
    return found


def least_moved(broken, others, count):
    """The least sum of the ways of breaks to other ones round the clock, none past another one."""
    many = len(broken)
    round_and_round = [other + turn * count for turn in range(-many - 1, many + 2) for other in others]
    return min(
        sum(abs(one - other) for one, other in zip(broken, round_and_round[first:first + many]))
        for first in range(len(round_and_round) - many + 1)
    )


class TestSmallOrders(unittest.TestCase):
    def check_turns(self, order, other):
        """The calls of `turns` are due, one after the other, and lead to an order that is alike to the other one."""
        made = turns(order, other)
        self.assertEqual(len(made), fewest_turns(order, other))
        for call in made:
            order = turned(order, call)
            self.assertIsNotNone(order)
        self.assertEqual(breaks_by_words(order), breaks_by_words(other))
        return made

    def test_all_breaks_against_a_search(self):
        for count in (3, 4, 5, 6, 7):
            ways = ways_between(count)
            for broken in all_broken(count):
                fewest = fewest_from(tuple(broken), ways)
                order = order_with(count, broken)
                for others in all_broken(count):
                    other = order_with(count, others)
                    if len(broken) == len(others):
                        self.assertEqual(fewest_turns(order, other), fewest[tuple(others)])
                        self.check_turns(order, other)
                    else:
                        self.assertNotIn(tuple(others), fewest)
                        self.assertIsNone(fewest_turns(order, other))
                        self.assertIsNone(turns(order, other))

    def test_all_pairs_of_small_orders(self):
        for count in (3, 4):
            ways = ways_between(count)
            for order in orders(count):
                fewest = fewest_from(tuple(breaks_by_words(order)), ways)
                for other in orders(count):
                    wanted = fewest.get(tuple(breaks_by_words(other)))
                    self.assertEqual(fewest_turns(order, other), wanted)
                    if wanted is not None:
                        self.check_turns(order, other)

    def test_alike_orders_need_no_turns(self):
        for count in (3, 4, 5, 6):
            for alike in orders_by_breaks(count).values():
                for order in alike[:12]:
                    self.assertEqual(fewest_turns(order, alike[-1]), 0)
                    self.assertEqual(turns(order, alike[-1]), [])

    def test_as_far_back_as_there(self):
        chance = random.Random(41)
        for _ in range(200):
            count = chance.randint(3, 40)
            order, other = some_order(count, chance), some_order(count, chance)
            self.assertEqual(fewest_turns(order, other), fewest_turns(other, order))

    def test_one_turn(self):
        chance = random.Random(42)
        for _ in range(100):
            count = chance.randint(3, 40)
            order = some_order(count, chance)
            for other, call in ((order[1:] + order[:1], order[0]), (order[-1:] + order[:-1], order[-1])):
                self.assertEqual(fewest_turns(order, other), 1)
                self.assertEqual(turns(order, other), [call])

    def test_equally_many_breaks(self):
        chance = random.Random(43)
        for _ in range(60):
            count = chance.randint(8, 40)
            many = chance.randint(1, count - 1)
            broken, others = (sorted(chance.sample(range(1, count + 1), many)) for _ in range(2))
            order, other = order_with(count, broken), order_with(count, others)
            self.assertEqual(fewest_turns(order, other), least_moved(broken, others, count))
            self.check_turns(order, other)
            self.check_turns(order[::-1], other[::-1])

    def test_breaks_that_stand_close_together(self):
        for count, many in ((9, 8), (9, 4), (12, 11), (40, 20), (40, 39), (40, 3)):
            for turn in range(count):
                broken = sorted((turn + at) % count + 1 for at in range(many))
                others = list(range(1, many + 1))
                order, other = order_with(count, broken), order_with(count, others)
                self.assertEqual(fewest_turns(order, other), least_moved(broken, others, count))
                self.check_turns(order, other)

    def test_other_numbers_of_breaks(self):
        for count in (3, 4, 9, 40):
            for many in range(1, count - 1):
                order, other = (order_with(count, list(range(1, some + 1))) for some in (many, many + 1))
                for one, two in ((order, other), (other, order)):
                    self.assertIsNone(fewest_turns(one, two))
                    self.assertIsNone(turns(one, two))


class TestRounds(unittest.TestCase):
    def test_calls_ahead_a_round_in_the_other_order_and_the_calls_back(self):
        chance = random.Random(44)
        for count in (3, 4, 5, 6, 7, 20, 40):
            for _ in range(25):
                many = chance.randint(1, count - 1)
                order, other = (order_with(count, chance.sample(range(1, count + 1), many)) for _ in range(2))
                ties, standing = some_net(count, chance), some_order(count, chance)
                made = turns(order, other)
                found, _ = behind(ties, standing, made + other + made[::-1])
                self.assertEqual(found, behind(ties, standing, order)[0])


class TestWrong(unittest.TestCase):
    def check(self, order, other, index):
        for function in (fewest_turns, turns):
            check_index(self, raised(function, order, other), InvalidOrder, index)
            check_index(self, raised(function, other=other, order=order), InvalidOrder, index)

    def test_order(self):
        for count in (3, 4, 40):
            for order, index in no_standings(count):
                if not isinstance(order, list) or len(order) == count or not 3 <= len(order) <= 40:
                    self.check(order, list(range(1, count + 1)), index)

    def test_orders_of_no_length_that_may_be(self):
        for order in ([], [1], [1, 2], list(range(1, 42)), [None] * 41, [1] * 2):
            self.check(order, list(order), None)
            self.check(order, [1, 2, 3], None)

    def test_other(self):
        for count in (3, 4, 40):
            for other, index in no_standings(count):
                self.check(list(range(1, count + 1)), other, index)

    def test_other_of_another_length(self):
        self.check([1, 2, 3], [1, 2, 3, 4], None)
        self.check([1, 2, 3, 4], [1, 2, 3], None)
        self.check(UP40, [1, 2, 3], None)
        self.check([1, 2, 3], [0, 0, 0, 0], None)

    def test_order_is_told_ahead_of_other(self):
        for other in [None, [], [1, 1, 2], [0, 1, 2], Touchy()] + no_lists()[:6]:
            self.check([1, 3, 3], other, 2)
            self.check([1, 2], other, None)
        for thing in no_members(3):
            self.check([1, thing, 2], [thing, 1, 2], 1)

    def test_an_error_changes_nothing(self):
        order, other = [1, 3, 2], [1, 3, 3]
        self.check(order, other, 2)
        self.assertEqual((order, other), ([1, 3, 2], [1, 3, 3]))


class TestCalls(unittest.TestCase):
    def test_by_position_and_by_name(self):
        order, other = [1, 2, 3, 4, 5], [2, 3, 4, 5, 1]
        self.assertEqual(fewest_turns(order, other=other), 1)
        self.assertEqual(fewest_turns(other=other, order=order), 1)
        self.assertEqual(turns(order, other=other), [1])
        self.assertEqual(turns(other=other, order=order), [1])
        self.assertEqual(turns(other, order), [1])

    def test_results_are_new_and_arguments_stay(self):
        chance = random.Random(45)
        for count in (3, 4, 9, 40):
            order = some_order(count, chance)
            for other in (order, list(order), order[::-1], order[2:] + order[:2]):
                check_result(self, fewest_turns, order, other)
                check_result(self, turns, order, other)

    def test_kinds_of_results(self):
        self.assertIs(fewest_turns([1, 2, 3, 4], [3, 4, 1, 2]).__class__, int)
        self.assertIs(fewest_turns([1, 2, 3], [1, 2, 3]).__class__, int)
        found = turns([1, 2, 3, 4], [3, 4, 1, 2])
        self.assertIs(found.__class__, list)
        self.assertEqual({call.__class__ for call in found}, {int})


class TestLargest(unittest.TestCase):
    def test_as_far_as_can_be(self):
        order, other = order_with(40, UP40[:20]), order_with(40, UP40[20:])
        start = time.perf_counter()
        self.assertEqual(fewest_turns(order, other), 200)
        self.assertEqual(len(turns(order, other)), 200)
        self.assertLess(time.perf_counter() - start, 10)
