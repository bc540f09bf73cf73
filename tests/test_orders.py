"""Promises [2], [3], [7] and [8]: breaks, and alike orders."""

import time
import unittest
from itertools import combinations, permutations
from math import comb, factorial

from apartcalls.errors import InvalidBreaks, InvalidNumber, InvalidOrder
from apartcalls.orders import are_alike, breaks, count_alike, least_order, order_counts
from tests.model import all_broken, breaks_by_words, next_to, orders, orders_by_breaks
from tests.things import Touchy, check_result, no_counts, no_lists, no_members, raised

UP40 = list(range(1, 41))
ODDS = list(range(1, 41, 2))
EVENS = list(range(2, 41, 2))


def reached_by_swaps(order):
    """The orders that one comes to by changing two calls side by side that name four people."""
    count = len(order)
    found = {tuple(order)}
    waiting = [tuple(order)]
    while waiting:
        row = waiting.pop()
        for at in range(count - 1):
            one, two = row[at], row[at + 1]
            if next_to(one, count) != two and next_to(two, count) != one:
                swapped = row[:at] + (two, one) + row[at + 2:]
                if swapped not in found:
                    found.add(swapped)
                    waiting.append(swapped)
    return found


def round_on(ties, standing, order):
    """The standing behind a round, by the words of the document; `ties` is a set of pairs."""
    standing = list(standing)
    count = len(standing)
    for call in order:
        one = standing.index(call)
        two = standing.index(next_to(call, count))
        if (min(one, two) + 1, max(one, two) + 1) not in ties:
            standing[one], standing[two] = standing[two], standing[one]
    return tuple(standing)


def round_everywhere(count, order):
    """The standings behind a round, from all standings on all nets of so many seats."""
    pairs = list(combinations(range(1, count + 1), 2))
    return tuple(
        round_on(set(ties), standing, order)
        for many in range(len(pairs) + 1)
        for ties in combinations(pairs, many)
        for standing in permutations(range(1, count + 1))
    )


def zigzags(count):
    """The numbers of lists of 0, 1 and so on up to `count` things that go up and down by turns."""
    # 2 E(n + 1) is the sum of C(n, k) E(k) E(n - k).
    found = [1, 1]
    for n in range(1, count):
        found.append(sum(comb(n, k) * found[k] * found[n - k] for k in range(n + 1)) // 2)
    return found


class TestBreaks(unittest.TestCase):
    def test_ordinary(self):
        self.assertEqual(breaks([3, 1, 2]), [2])
        self.assertEqual(breaks([3, 2, 1]), [1, 2])
        self.assertEqual(breaks([5, 4, 3, 2, 1]), [1, 2, 3, 4])
        self.assertEqual(breaks([2, 4, 1, 3, 5]), [1, 3, 5])

    def test_all_small_orders(self):
        for count in (3, 4, 5, 6, 7):
            for order in orders(count):
                self.assertEqual(breaks(order), breaks_by_words(order))

    def test_there_is_a_break_and_a_call_that_is_none(self):
        for count in (3, 4, 5, 6):
            for order in orders(count):
                self.assertTrue(1 <= len(breaks(order)) < count)

    def test_one_and_all_but_one(self):
        for count in range(3, 41):
            up = list(range(1, count + 1))
            for turn in range(count):
                order = up[turn:] + up[:turn]
                self.assertEqual(breaks(order), [turn if turn else count])
                self.assertEqual(breaks(order[::-1]), [call for call in up if call != (turn if turn else count)])

    def test_forty(self):
        self.assertEqual(breaks(ODDS + EVENS), EVENS)
        self.assertEqual(breaks(EVENS + ODDS), ODDS)


class TestLeastOrder(unittest.TestCase):
    def test_all_small_breaks(self):
        for count in (3, 4, 5, 6, 7):
            found = orders_by_breaks(count)
            self.assertEqual(sorted(found), sorted(tuple(broken) for broken in all_broken(count)))
            for broken, alike in found.items():
                self.assertEqual(least_order(count, list(broken)), min(alike))
                self.assertEqual(least_order(count, list(broken[::-1])), min(alike))

    def test_each_order_of_the_breaks(self):
        for broken in permutations([1, 3, 4, 6]):
            self.assertEqual(least_order(6, list(broken)), least_order(6, [1, 3, 4, 6]))

    def test_one_and_all_but_one(self):
        for count in range(3, 41):
            up = list(range(1, count + 1))
            for call in up:
                self.assertEqual(least_order(count, [call]), up[call:] + up[:call])
                others = [other for other in up if other != call]
                self.assertEqual(least_order(count, others), (up[call:] + up[:call])[::-1])

    def test_forty(self):
        self.assertEqual(least_order(40, EVENS), [1, 3, 2] + [k for odd in ODDS[2:] for k in (odd, odd - 1)] + [40])
        for broken in (ODDS, EVENS, [1, 2, 39, 40], list(range(3, 30)), [40, 1]):
            order = least_order(40, broken)
            self.assertEqual(sorted(order), UP40)
            self.assertEqual(breaks_by_words(order), sorted(broken))


class TestAreAlike(unittest.TestCase):
    def test_all_pairs_of_small_orders(self):
        for count in (3, 4, 5):
            told = [(order, breaks_by_words(order)) for order in orders(count)]
            for order, broken in told:
                for other, others in told:
                    self.assertIs(are_alike(order, other), broken == others)

    def test_alike_are_those_with_the_same_rounds_everywhere(self):
        for count in (3, 4):
            behind = [(order, round_everywhere(count, order)) for order in orders(count)]
            for order, standings in behind:
                for other, others in behind:
                    self.assertIs(are_alike(order, other), standings == others)

    def test_alike_are_those_that_swaps_of_calls_far_apart_lead_to(self):
        for order in orders(6)[::37]:
            reached = reached_by_swaps(order)
            for other in orders(6):
                self.assertIs(are_alike(order, other), tuple(other) in reached)

    def test_forty(self):
        self.assertIs(are_alike(ODDS + EVENS, ODDS[::-1] + EVENS[::-1]), True)
        self.assertIs(are_alike(ODDS + EVENS, EVENS + ODDS), False)
        self.assertIs(are_alike(UP40, list(UP40)), True)
        self.assertIs(are_alike(UP40, UP40[1:] + [1]), False)
        self.assertIs(are_alike(UP40, UP40), True)


class TestCounts(unittest.TestCase):
    def test_count_alike_of_all_small_orders(self):
        for count in (3, 4, 5, 6, 7):
            for alike in orders_by_breaks(count).values():
                for order in alike:
                    self.assertEqual(count_alike(order), len(alike))

    def test_count_alike_by_swaps(self):
        for order in orders(6)[::17]:
            self.assertEqual(count_alike(order), len(reached_by_swaps(order)))

    def test_count_alike_of_one_break_and_of_all_but_one(self):
        for count in range(3, 41):
            up = list(range(1, count + 1))
            self.assertEqual([count_alike(up), count_alike(up[::-1]), count_alike(up[2:] + up[:2])], [1, 1, 1])

    def test_count_alike_of_two_breaks(self):
        # The calls behind the first break up to the second one, and the others, are two rows that may be shuffled in
        # any way but the two in which all of one row stands ahead of all of the other one: these have one break.
        for count in (3, 4, 9, 40):
            for first, second in combinations(range(1, count + 1), 2):
                inner = list(range(first + 1, second + 1))
                outer = list(range(second + 1, count + 1)) + list(range(1, first + 1))
                short, long = sorted([inner, outer], key=len)
                order = long[:-1] + short + long[-1:]
                self.assertEqual(breaks_by_words(order), [first, second])
                self.assertEqual(count_alike(order), comb(count, len(inner)) - 2)

    def test_count_alike_of_zigzags(self):
        numbers = zigzags(40)
        self.assertEqual(numbers[:8], [1, 1, 1, 2, 5, 16, 61, 272])
        for half in range(2, 21):
            odds = list(range(1, 2 * half, 2))
            evens = list(range(2, 2 * half + 1, 2))
            self.assertEqual(count_alike(odds + evens), half * numbers[2 * half - 1])
            self.assertEqual(count_alike(evens + odds), half * numbers[2 * half - 1])

    def test_order_counts_of_small_orders(self):
        for count in (3, 4, 5, 6, 7):
            found = [0] * (count - 1)
            for broken, alike in orders_by_breaks(count).items():
                found[len(broken) - 1] += len(alike)
            self.assertEqual(order_counts(count), found)

    def test_order_counts_and_count_alike_agree(self):
        for count in range(3, 12):
            found = [0] * (count - 1)
            for broken in all_broken(count):
                found[len(broken) - 1] += count_alike(least_order(count, broken))
            self.assertEqual(order_counts(count), found)

    def test_order_counts_of_all_sizes(self):
        for count in range(3, 41):
            # The explicit formula for the Eulerian numbers, with signs by turns.
            wanted = [
                count * sum((-1) ** j * comb(count, j) * (d - j) ** (count - 1) for j in range(d))
                for d in range(1, count)
            ]
            self.assertEqual(order_counts(count), wanted)
            self.assertEqual(sum(wanted), factorial(count))


def with_order(order):
    """The calls of all functions that take an order, with this one, each as if it stood alone."""
    return [(breaks, [order]), (count_alike, [order]), (are_alike, [order, [1, 2, 3]]), (are_alike, [order, None])]


class TestWrongOrder(unittest.TestCase):
    def check_error(self, error, index):
        self.assertIs(error.__class__, InvalidOrder)
        self.assertIs(error.index.__class__, index.__class__)
        self.assertEqual(error.index, index)

    def check(self, order, index):
        for function, told in with_order(order):
            self.check_error(raised(function, *told), index)
        # As the other order it is told the same, if it has the right number of things.
        if isinstance(order, list) and 3 <= len(order) <= 40:
            self.check_error(raised(are_alike, list(range(1, len(order) + 1)), order), index)

    def test_no_list(self):
        for thing in no_lists():
            self.check(thing, None)
            self.check_error(raised(are_alike, [1, 2, 3], thing), None)

    def test_lists_of_another_length(self):
        for many in (0, 1, 2, 41, 42, 100, 100000):
            self.check(list(range(1, many + 1)), None)
            self.check([None] * many, None)

    def test_the_edges_are_allowed(self):
        self.assertEqual(breaks([1, 2, 3]), [3])
        self.assertEqual(breaks(UP40), [40])
        self.assertEqual(count_alike(UP40), 1)
        self.assertIs(are_alike(UP40, UP40), True)

    def test_things_that_are_no_calls(self):
        for count in (3, 4, 40):
            up = list(range(1, count + 1))
            for thing in no_members(count):
                for at in (0, 1, count - 1):
                    self.check(up[:at] + [thing] + up[at + 1:], at)

    def test_doubles(self):
        self.check([1, 1, 2], 1)
        self.check([1, 2, 1], 2)
        self.check([3, 3, 3], 1)
        self.check(UP40[:-1] + [1], 39)
        self.check([40] + UP40[1:], 39)

    def test_the_first_of_several_wrong_things_is_told_whatever_is_wrong_with_it(self):
        self.check([1, 1, None, 5], 1)
        self.check([1, None, 1, 5], 1)
        self.check([2, 5, 2, Touchy()], 1)
        self.check([2, 2, 2, Touchy()], 1)
        self.check([True, 1, 1, 0], 0)
        self.check([1, True, 1, 2], 1)

    def test_another_length_is_told_ahead_of_wrong_things(self):
        self.check([None, 1], None)
        self.check([0] + UP40, None)

    def test_a_list_in_itself(self):
        order = [1, 2]
        order.append(order)
        self.check(order, 2)

    def test_other_of_another_length(self):
        for order in ([1, 2, 3], [1, 2, 3, 4], UP40):
            for other in ([], [1], [1, 2], [1, 2, 3, 4, 5], UP40[:-1], UP40 + [41], [0] * 39):
                if len(other) != len(order):
                    self.check_error(raised(are_alike, order, other), None)

    def test_order_is_checked_ahead_of_other(self):
        for other in (None, [], [1, 2], [0, 1, 2], [1, 1, 2], Touchy()):
            self.check_error(raised(are_alike, [1, 2, 2], other), 2)
            self.check_error(raised(are_alike, other=other, order=[2, None, 0]), 1)
            self.check_error(raised(are_alike, [1, 2], other), None)
        self.check_error(raised(are_alike, (1, 2, 3), [0, 1, 2]), None)


class TestWrongCount(unittest.TestCase):
    def test_no_whole_number_from_3_to_40(self):
        for thing in no_counts():
            for error in (
                raised(order_counts, thing), raised(least_order, thing, [1]), raised(least_order, thing, None),
                raised(least_order, thing, [1, 1]), raised(least_order, broken=[], count=thing),
            ):
                self.assertIs(error.__class__, InvalidNumber)
                self.assertIs(error.number, thing)

    def test_the_edges_are_allowed(self):
        self.assertEqual(order_counts(3), [3, 3])
        self.assertEqual(len(order_counts(40)), 39)
        self.assertEqual(least_order(3, [3]), [1, 2, 3])
        self.assertEqual(least_order(40, [40]), UP40)


class TestWrongBreaks(unittest.TestCase):
    def check(self, count, broken, index):
        error = raised(least_order, count, broken)
        self.assertIs(error.__class__, InvalidBreaks)
        self.assertIs(error.index.__class__, index.__class__)
        self.assertEqual(error.index, index)

    def test_no_list(self):
        for thing in no_lists():
            self.check(4, thing, None)

    def test_none_and_all_and_more(self):
        for count in (3, 4, 40):
            self.check(count, [], None)
            self.check(count, list(range(1, count + 1)), None)
            self.check(count, list(range(1, count + 2)), None)
            self.check(count, [1] * count, None)
            self.check(count, [None] * count, None)
            self.check(count, [None] * 100000, None)

    def test_things_that_are_no_calls(self):
        for count in (3, 4, 40):
            for thing in no_members(count):
                self.check(count, [thing], 0)
                self.check(count, [2, thing], 1)
                self.check(count, [thing, 2], 0)
                self.check(count, list(range(1, count - 1)) + [thing], count - 2)

    def test_doubles(self):
        self.check(3, [2, 2], 1)
        self.check(5, [4, 1, 2, 1], 3)
        self.check(40, UP40[1:-1] + [2], 38)

    def test_the_first_of_several_wrong_things_is_told_whatever_is_wrong_with_it(self):
        self.check(5, [1, 1, None, 6], 1)
        self.check(5, [1, None, 1, 6], 1)
        self.check(5, [2, 6, 2, Touchy()], 1)
        self.check(5, [True, 1, 1, 0], 0)
        self.check(5, [1, True, 1], 1)


class TestCalls(unittest.TestCase):
    def test_by_position_and_by_name(self):
        order, other = [1, 3, 2, 4], [1, 2, 3, 4]
        self.assertEqual(breaks(order=order), [2, 4])
        self.assertEqual(count_alike(order=order), 4)
        self.assertEqual(order_counts(count=3), [3, 3])
        for told in (least_order(5, broken=[4, 2]), least_order(count=5, broken=[4, 2]),
                     least_order(broken=[4, 2], count=5)):
            self.assertEqual(told, [3, 5, 1, 2, 4])
        for told in (are_alike(order, other=other), are_alike(order=order, other=other),
                     are_alike(other=other, order=order)):
            self.assertIs(told, False)

    def test_results_are_new_and_arguments_stay(self):
        for order in ([1, 2, 3], [2, 4, 1, 3], UP40, ODDS + EVENS):
            order = list(order)
            check_result(self, breaks, order)
            check_result(self, count_alike, order)
            check_result(self, are_alike, order, order)
            check_result(self, are_alike, order, order[::-1])
        for broken in ([2], [3, 1], list(range(39, 0, -1))):
            check_result(self, least_order, 40, broken)
        for count in (3, 7, 40):
            check_result(self, order_counts, count)

    def test_an_error_changes_nothing(self):
        order, broken = [4, 2, 3, 3], [3, 1, 1]
        for function, told in ((breaks, [order]), (count_alike, [order]), (are_alike, [[1, 2, 3, 4], order]),
                               (least_order, [4, broken])):
            raised(function, *told)
        self.assertEqual((order, broken), ([4, 2, 3, 3], [3, 1, 1]))

    def test_kinds_of_results(self):
        for told in (breaks([2, 1, 3]), least_order(3, [1]), order_counts(3), [count_alike([2, 1, 3])]):
            self.assertIs(told.__class__, list)
            self.assertEqual({one.__class__ for one in told}, {int})


class TestLargest(unittest.TestCase):
    def test_forty_calls_in_time(self):
        for order in (UP40, UP40[::-1], ODDS + EVENS, EVENS + ODDS):
            for function, told in (
                (breaks, [order]), (count_alike, [order]), (are_alike, [order, order]),
                (least_order, [40, breaks_by_words(order)]), (order_counts, [40]),
            ):
                start = time.perf_counter()
                function(*told)
                self.assertLess(time.perf_counter() - start, 10)
