"""Promises [2], [3] and [5]: parts, woods and rows."""

import time
import unittest
from itertools import combinations, permutations

from apartcalls.errors import InvalidNumber, InvalidTies
from apartcalls.nets import is_row, is_wood, parts
from tests.model import nets
from tests.things import Touchy, check_result, no_counts, no_lists, no_members, raised

ALL = [parts, is_wood, is_row]
ROW40 = [[seat, seat + 1] for seat in range(1, 40)]
FULL40 = [list(pair) for pair in combinations(range(1, 41), 2)]


def reach(seats, ties):
    """The pairs of seats of which one can go from one to the other, found by going on through each seat in turn."""
    ways = {(seat, seat) for seat in range(1, seats + 1)}
    ways |= {(a, b) for a, b in ties} | {(b, a) for a, b in ties}
    for mid in range(1, seats + 1):
        ways |= {(a, b) for a in range(1, seats + 1) for b in range(1, seats + 1) if {(a, mid), (mid, b)} <= ways}
    return ways


def parts_by_reach(seats, ties):
    ways = reach(seats, ties)
    return sorted({tuple(b for b in range(1, seats + 1) if (a, b) in ways) for a in range(1, seats + 1)})


def all_rings(seats):
    """The rings that there may be, each as the set of its ties, by the words of the document."""
    found = set()
    for many in range(3, seats + 1):
        for row in permutations(range(1, seats + 1), many):
            found.add(frozenset(frozenset(pair) for pair in zip(row, row[1:] + row[:1])))
    return found


def all_rows(seats):
    return {frozenset(frozenset(pair) for pair in zip(row, row[1:])) for row in permutations(range(1, seats + 1))}


class TestSmall(unittest.TestCase):
    def test_no_ties_and_all_ties(self):
        for seats in range(3, 41):
            full = [list(pair) for pair in combinations(range(1, seats + 1), 2)]
            self.assertEqual(parts(seats, []), [[seat] for seat in range(1, seats + 1)])
            self.assertIs(is_wood(seats, []), True)
            self.assertIs(is_row(seats, []), False)
            self.assertEqual(parts(seats, full), [list(range(1, seats + 1))])
            self.assertIs(is_wood(seats, full), False)
            self.assertIs(is_row(seats, full), False)

    def test_rows_rings_and_stars(self):
        for seats in range(3, 41):
            row = [[seat + 1, seat] for seat in range(1, seats)]
            self.assertEqual((is_wood(seats, row), is_row(seats, row)), (True, True))
            ring = row + [[1, seats]]
            self.assertEqual((is_wood(seats, ring), is_row(seats, ring)), (False, False))
            star = [[seats, seat] for seat in range(1, seats)]
            self.assertEqual((is_wood(seats, star), is_row(seats, star)), (True, seats == 3))
            self.assertEqual(parts(seats, star), parts(seats, ring))

    def test_a_row_and_a_seat_without_ties_is_no_row(self):
        self.assertIs(is_row(4, [[1, 2], [2, 3]]), False)
        self.assertIs(is_wood(4, [[1, 2], [2, 3]]), True)

    def test_a_ring_beside_a_seat_has_as_many_ties_as_a_tree(self):
        ties = [[1, 2], [2, 3], [3, 1]]
        self.assertEqual((parts(4, ties), is_wood(4, ties), is_row(4, ties)), ([[1, 2, 3], [4]], False, False))

    def test_parts_come_in_the_order_of_their_least_seats(self):
        ties = [[6, 5], [7, 2], [3, 7], [5, 1]]
        self.assertEqual(parts(7, ties), [[1, 5, 6], [2, 3, 7], [4]])

    def test_the_order_of_ties_and_of_their_seats_does_not_matter(self):
        for seats in (3, 4):
            for ties in nets(seats):
                turned = [tie[::-1] for tie in ties[::-1]]
                for function in ALL:
                    self.assertEqual(function(seats, ties), function(seats, turned))


class TestAgainstAllNets(unittest.TestCase):
    def test_parts(self):
        for seats in (3, 4, 5):
            for ties in nets(seats):
                self.assertEqual([tuple(part) for part in parts(seats, ties)], parts_by_reach(seats, ties), ties)

    def test_woods(self):
        for seats in (3, 4, 5):
            rings = all_rings(seats)
            for ties in nets(seats):
                tied = frozenset(frozenset(tie) for tie in ties)
                self.assertIs(is_wood(seats, ties), not any(ring <= tied for ring in rings), ties)

    def test_rows(self):
        for seats in (3, 4, 5, 6):
            rows = all_rows(seats)
            for ties in nets(seats):
                self.assertIs(is_row(seats, ties), frozenset(frozenset(tie) for tie in ties) in rows, ties)

    def test_how_many_woods_and_trees_there_are(self):
        # Woods: the known numbers of labelled forests. Trees: Cayley's n ** (n - 2).
        for seats, woods, trees in ((3, 7, 3), (4, 38, 16), (5, 291, 125), (6, 2932, 1296)):
            found = [ties for ties in nets(seats) if is_wood(seats, ties)]
            self.assertEqual(len(found), woods)
            self.assertEqual(len([ties for ties in found if len(parts(seats, ties)) == 1]), trees)


class TestWrongSeats(unittest.TestCase):
    def test_no_whole_number_from_3_to_40(self):
        for function in ALL:
            for thing in no_counts():
                error = raised(function, thing, [])
                self.assertIs(error.__class__, InvalidNumber)
                self.assertIs(error.number, thing)

    def test_the_edges_are_allowed(self):
        for function in ALL:
            function(3, [])
            function(40, [])

    def test_seats_are_checked_ahead_of_ties(self):
        for function in ALL:
            for ties in (None, [[1, 1]], [3], [[1, 2], [2, 1]]):
                self.assertIs(raised(function, 41, ties).__class__, InvalidNumber)
                self.assertIs(raised(function, ties=ties, seats=True).__class__, InvalidNumber)


class TestWrongTies(unittest.TestCase):
    def check(self, seats, ties, index):
        for function in ALL:
            error = raised(function, seats, ties)
            self.assertIs(error.__class__, InvalidTies)
            self.assertIs(error.index.__class__, index.__class__)
            self.assertEqual(error.index, index)

    def test_no_list(self):
        for thing in no_lists():
            self.check(4, thing, None)

    def test_things_that_are_no_ties(self):
        for thing in no_lists():
            self.check(4, [thing], 0)
            self.check(4, [[1, 2], [3, 2], thing], 2)
            self.check(4, [[1, 2], thing, [3, 4]], 1)

    def test_lists_of_another_length(self):
        for tie in ([], [1], [1, 2, 3], [1, 2, 1], [[1, 2]], [1, 2, None]):
            self.check(4, [[1, 3], tie], 1)

    def test_things_that_are_no_seats(self):
        for seats in (3, 4, 40):
            for thing in no_members(seats):
                self.check(seats, [[1, thing]], 0)
                self.check(seats, [[1, 2], [thing, 3]], 1)
                self.check(seats, [[2, 3], [thing, thing]], 1)

    def test_one_seat_twice(self):
        for seats in (3, 40):
            self.check(seats, [[seats, seats]], 0)
            self.check(seats, [[2, 1], [1, 1]], 1)

    def test_two_seats_twice(self):
        self.check(4, [[1, 2], [1, 2]], 1)
        self.check(4, [[1, 2], [2, 1]], 1)
        self.check(4, [[1, 2], [3, 4], [4, 1], [4, 3], [2, 1]], 3)
        self.check(40, ROW40 + [[40, 39]], 39)
        tie = [3, 1]
        self.check(3, [tie, tie], 1)
        self.check(40, FULL40 + [[7, 3]], 780)

    def test_the_first_of_several_wrong_things_is_told_whatever_is_wrong_with_it(self):
        self.check(4, [[1, 2], [2, 1], None], 1)
        self.check(4, [[1, 2], None, [2, 1]], 1)
        self.check(4, [[1, 2], [5, 1], [2, 1], 3], 1)
        self.check(4, [[1, 2], [3, 3], [4], [1, 2]], 1)
        self.check(4, [[4, 3], [3, 4], [2, 2], Touchy()], 1)
        self.check(4, [[True, 2], [1, 2], [1, 2]], 0)

    def test_a_wrong_thing_behind_many_right_ones(self):
        for index in (0, 1, 400, 780):
            self.check(40, FULL40[:index] + [[1, 41]] + FULL40[index:], index)

    def test_more_things_than_there_are_pairs(self):
        self.check(3, [[1, 2], [1, 3], [2, 3], [1, 2]], 3)
        self.check(3, [[1, 2]] * 100000, 1)
        self.check(3, [None] * 100000, 0)

    def test_a_list_in_itself(self):
        ties = [[1, 2]]
        ties.append(ties)
        self.check(3, ties, 1)


class TestCalls(unittest.TestCase):
    def test_by_position_and_by_name(self):
        ties = [[1, 2], [2, 3]]
        for function in ALL:
            wanted = function(4, ties)
            self.assertEqual(function(4, ties=ties), wanted)
            self.assertEqual(function(seats=4, ties=ties), wanted)
            self.assertEqual(function(ties=ties, seats=4), wanted)

    def test_results_are_new_and_arguments_stay(self):
        for function in ALL:
            for seats, ties in ((3, []), (5, [[4, 2], [5, 4]]), (4, [[1, 2], [2, 3], [3, 1]]), (40, FULL40)):
                check_result(self, function, seats, ties)

    def test_one_list_object_may_be_several_arguments(self):
        self.assertEqual(parts(3, [[1, 2]]), [[1, 2], [3]])
        tie = [1, 2]
        check_result(self, parts, 3, [tie, [2, 3]])
        self.assertEqual(tie, [1, 2])

    def test_an_error_changes_nothing(self):
        ties = [[2, 1], [3, 1], [1, 3]]
        for function in ALL:
            raised(function, 4, ties)
            self.assertEqual(ties, [[2, 1], [3, 1], [1, 3]])
            self.assertEqual(function(4, ties[:2]), function(4, [[1, 2], [1, 3]]))

    def test_kinds_of_results(self):
        for ties in nets(3):
            for part in parts(3, ties):
                self.assertIs(part.__class__, list)
                self.assertEqual({seat.__class__ for seat in part}, {int})


class TestLargest(unittest.TestCase):
    def test_forty_seats_in_time(self):
        pairs = [[2 * seat - 1, 2 * seat] for seat in range(1, 21)]
        for ties, wanted in (
            ([], ([[seat] for seat in range(1, 41)], True, False)),
            (FULL40, ([list(range(1, 41))], False, False)),
            (FULL40[::-1], ([list(range(1, 41))], False, False)),
            (ROW40, ([list(range(1, 41))], True, True)),
            (ROW40[::-1], ([list(range(1, 41))], True, True)),
            (pairs, (pairs, True, False)),
        ):
            for function, answer in zip(ALL, wanted):
                start = time.perf_counter()
                self.assertEqual(function(40, ties), answer)
                self.assertLess(time.perf_counter() - start, 10)
