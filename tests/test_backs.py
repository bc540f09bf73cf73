"""Promises [2], [3], [10], [11], [12] and [13]: after how many rounds standings are back."""

import random
import time
import unittest
from math import factorial, gcd, lcm

from apartcalls.backs import all_back, back_after, backs_counted, fixed_after
from apartcalls.errors import InvalidNumber, InvalidOrder, InvalidStanding, InvalidTies
from tests.model import (
    all_broken, all_together, back_in_row, back_in_wood, backs_everywhere, behind, breaks_by_words, counted, full, nets,
    order_with, orders, row_of, sizes_by_seat, some_net, some_order, some_row, some_wood, standings,
)
from tests.things import (
    Touchy, check_index, check_number, check_result, no_counts, no_nets, no_numbers, no_standings, raised,
)

UP40 = list(range(1, 41))
ROW40 = row_of(UP40)


def is_wood_by_words(seats, ties):
    """A net has no ring if each tie, taken out, leaves its seats in different parts."""
    return all(
        tie[1] not in reached(tie[0], [other for other in ties if other != tie])
        for tie in ties
    )


def reached(seat, ties):
    found = {seat}
    for _ in ties:
        for one, two in ties:
            if one in found or two in found:
                found |= {one, two}
    return found


def is_row_by_words(seats, ties):
    ends = [seat for tie in ties for seat in tie]
    sizes = sizes_by_seat(seats, ties)
    return is_wood_by_words(seats, ties) and sizes[1] == seats and max(map(ends.count, ends)) <= 2


def some_orders(count, many, chance):
    """Orders of so many calls, some with each number of breaks."""
    found = []
    for broken in range(1, count):
        for _ in range(many):
            found.append(order_with(count, chance.sample(range(1, count + 1), broken)))
    return found


class TestSmallNets(unittest.TestCase):
    """All answers against a walk of the test through all standings."""

    def check_net(self, seats, ties, order):
        backs = backs_everywhere(seats, ties, order)
        self.assertEqual(backs_counted(seats, ties, order), counted(backs))
        self.assertEqual(all_back(seats, ties, order), all_together(backs))
        for many in (0, 1, 2, 3, 4, 5, 6, 10, 12, 15, 20, 60, 10 ** 59, 720720 ** 9):
            wanted = sum(1 for rounds in backs.values() if many % rounds == 0)
            self.assertEqual(fixed_after(seats, ties, order, many), wanted)
            self.assertEqual(fixed_after(seats, ties, order, -many), wanted)
        return backs

    def test_all_nets_of_three_and_four_seats_and_all_orders(self):
        for seats in (3, 4):
            for ties in nets(seats):
                for order in orders(seats):
                    backs = self.check_net(seats, ties, order)
                    for standing, rounds in backs.items():
                        self.assertEqual(back_after(seats, ties, list(standing), order), rounds)

    def test_nets_of_five_seats(self):
        chance = random.Random(21)
        for ties in list(nets(5))[::9]:
            for order in some_orders(5, 1, chance):
                backs = self.check_net(5, ties, order)
                for standing in chance.sample(sorted(backs), 6):
                    self.assertEqual(back_after(5, ties, list(standing), order), backs[standing])

    def test_nets_of_six_and_seven_seats(self):
        chance = random.Random(22)
        for seats, many in ((6, 12), (7, 3)):
            for make in (some_net, some_row, lambda seats, chance: some_wood(seats, 2, chance)):
                for _ in range(many):
                    ties, order = make(seats, chance), some_order(seats, chance)
                    backs = self.check_net(seats, ties, order)
                    for standing in chance.sample(sorted(backs), 10):
                        self.assertEqual(back_after(seats, ties, list(standing), order), backs[standing])

    def test_woods_with_orders_of_one_break_and_of_one_call_that_is_none(self):
        chance = random.Random(23)
        for seats, many in ((5, 4), (6, 3), (7, 1)):
            for parts in range(1, seats + 1):
                for _ in range(many):
                    ties = some_wood(seats, parts, chance)
                    order = order_with(seats, [chance.randint(1, seats)])
                    self.check_net(seats, ties, order)
                    self.check_net(seats, ties, order[::-1])


class TestEquallyManyBreaks(unittest.TestCase):
    def test_the_number_of_breaks_alone_counts(self):
        chance = random.Random(24)
        for seats, some in ((3, list(nets(3))), (4, list(nets(4))), (5, [some_net(5, chance) for _ in range(40)]),
                            (6, [some_net(6, chance) for _ in range(5)])):
            for ties in some:
                found = {}
                for broken in all_broken(seats):
                    told = backs_counted(seats, ties, order_with(seats, broken))
                    least = min(len(broken), seats - len(broken))
                    self.assertEqual(told, found.setdefault(least, told))

    def test_every_standing_comes_back_and_is_counted_once(self):
        chance = random.Random(25)
        for _ in range(40):
            seats = chance.randint(3, 7)
            told = backs_counted(seats, some_net(seats, chance), some_order(seats, chance))
            self.assertEqual(sum(many for _, many in told), factorial(seats))
            self.assertEqual([rounds for rounds, _ in told], sorted({rounds for rounds, _ in told}))
            self.assertTrue(all(rounds >= 1 and many >= 1 for rounds, many in told))


class TestWoods(unittest.TestCase):
    def test_all_small_woods_and_all_standings(self):
        for seats in (3, 4):
            for ties in nets(seats):
                if is_wood_by_words(seats, ties):
                    for call in range(1, seats + 1):
                        order = order_with(seats, [call])
                        for standing in standings(seats):
                            for turn in (order, order[::-1]):
                                wanted = back_in_wood(ties, standing, turn)
                                self.assertEqual(back_after(seats, ties, standing, turn), wanted)

    def check_wood(self, seats, ties, order):
        sizes = sizes_by_seat(seats, ties)
        wanted = {}
        for seat in range(1, seats + 1):
            rounds = (seats - 1) * sizes[seat] // gcd(sizes[seat], seats)
            wanted[rounds] = wanted.get(rounds, 0) + factorial(seats - 1)
        self.assertEqual(backs_counted(seats, ties, order), sorted(wanted.items()))
        self.assertEqual(all_back(seats, ties, order), lcm(*wanted))
        for many in list(wanted) + [0, 1, -1, lcm(*wanted) * 10 ** 40, -min(wanted) * 7 ** 50, 10 ** 60 - 1]:
            self.assertEqual(
                fixed_after(seats, ties, order, many),
                sum(standings for rounds, standings in wanted.items() if many % rounds == 0))

    def test_woods_of_any_size(self):
        chance = random.Random(26)
        for seats in (3, 4, 8, 9, 12, 24, 39, 40):
            for parts in sorted({1, 2, 3, seats // 2, seats - 1, seats}):
                ties = some_wood(seats, parts, chance)
                order = order_with(seats, [chance.randint(1, seats)])
                for turn in (order, order[::-1]):
                    self.check_wood(seats, ties, turn)
                    for _ in range(3):
                        standing = some_order(seats, chance)
                        self.assertEqual(
                            back_after(seats, ties, standing, turn), back_in_wood(ties, standing, turn))

    def test_woods_of_parts_of_told_sizes(self):
        # Parts of several sizes may be back after equally many rounds: then they are told as one number.
        ties = row_of([1, 2]) + row_of([3, 4, 5]) + row_of([6, 7, 8, 9])
        self.assertEqual(
            backs_counted(12, ties, order_with(12, [5])), [(11, 12 * factorial(11))])
        self.assertEqual(
            backs_counted(10, ties, order_with(10, [10])),
            [(9, 3 * factorial(9)), (18, 4 * factorial(9)), (27, 3 * factorial(9))])

    def test_trees_are_back_after_one_round_less_than_there_are_seats(self):
        chance = random.Random(27)
        for seats in range(3, 41):
            ties = some_wood(seats, 1, chance)
            for order in (order_with(seats, [1]), order_with(seats, list(range(1, seats)))):
                self.assertEqual(backs_counted(seats, ties, order), [(seats - 1, factorial(seats))])
                self.assertEqual(all_back(seats, ties, order), seats - 1)
                self.assertEqual(back_after(seats, ties, some_order(seats, chance), order), seats - 1)


class TestRows(unittest.TestCase):
    def test_all_small_rows(self):
        for seats in (3, 4, 5):
            for ties in nets(seats):
                if len(ties) == seats - 1 and is_row_by_words(seats, ties):
                    for broken in all_broken(seats):
                        self.check_row(seats, ties, order_with(seats, broken))

    def check_row(self, seats, ties, order):
        broken = len(breaks_by_words(order))
        wanted = back_in_row(seats, broken)
        told = backs_counted(seats, ties, order)
        self.assertEqual([rounds for rounds, _ in told], sorted(wanted))
        self.assertEqual(sum(many for _, many in told), factorial(seats))
        for rounds, back in wanted.items():
            self.assertEqual(sum(many for early, many in told if rounds % early == 0), back)
            self.assertEqual(fixed_after(seats, ties, order, rounds), back)
            self.assertEqual(fixed_after(seats, ties, order, -rounds), back)
        self.assertEqual(all_back(seats, ties, order), broken * (seats - broken))
        self.assertEqual(fixed_after(seats, ties, order, max(wanted) * 10 ** 56), factorial(seats))
        return wanted

    def test_rows_of_all_sizes(self):
        chance = random.Random(28)
        for seats in range(3, 41):
            for broken in range(1, seats):
                ties = some_row(seats, chance) if broken % 5 == 0 else row_of(list(range(1, seats + 1)))
                self.check_row(seats, ties, order_with(seats, chance.sample(range(1, seats + 1), broken)))

    def test_standings_of_long_rows(self):
        chance = random.Random(29)
        for seats, broken in ((8, 4), (9, 3), (12, 6), (24, 12), (40, 1), (40, 2), (40, 20), (40, 39), (39, 13)):
            ties = some_row(seats, chance)
            order = order_with(seats, chance.sample(range(1, seats + 1), broken))
            for _ in range(3):
                standing = some_order(seats, chance)
                rounds = back_after(seats, ties, standing, order)
                self.assertIn(rounds, back_in_row(seats, broken))
                self.assertEqual(behind(ties, standing, order * rounds)[0], standing)
                for early in back_in_row(seats, broken):
                    if early < rounds and rounds % early == 0:
                        self.assertNotEqual(behind(ties, standing, order * early)[0], standing)

    def test_rounds_that_are_no_multiple(self):
        for many in (1, 2, 3, 11, -11, 10 ** 59 + 1):
            self.assertEqual(fixed_after(40, ROW40, order_with(40, [3, 9, 22]), many), 0)

    def test_a_net_with_as_many_ties_as_a_row_is_no_row(self):
        # A ring beside a seat, and a star: told by a walk, not by what holds in rows.
        for ties in ([[1, 2], [2, 3], [3, 1]], [[1, 2], [1, 3], [1, 4]]):
            for broken in all_broken(4):
                order = order_with(4, broken)
                self.assertEqual(backs_counted(4, ties, order), counted(backs_everywhere(4, ties, order)))


class TestNoTiesAllTies(unittest.TestCase):
    def test_all_sizes(self):
        chance = random.Random(30)
        for seats in range(3, 41):
            ties = full(seats)
            for broken in range(1, seats):
                order = order_with(seats, chance.sample(range(1, seats + 1), broken))
                rounds = lcm(broken, seats - broken)
                self.assertEqual(backs_counted(seats, [], order), [(rounds, factorial(seats))])
                self.assertEqual(all_back(seats, [], order), rounds)
                self.assertEqual(fixed_after(seats, [], order, rounds * 10 ** 55), factorial(seats))
                self.assertEqual(fixed_after(seats, [], order, rounds * 10 ** 55 + 1), factorial(seats) * (rounds == 1))
            standing, order = some_order(seats, chance), some_order(seats, chance)
            broken = len(breaks_by_words(order))
            self.assertEqual(back_after(seats, [], standing, order), lcm(broken, seats - broken))
            self.assertEqual(back_after(seats, ties, standing, order), 1)
            self.assertEqual(backs_counted(seats, ties, order), [(1, factorial(seats))])
            self.assertEqual(all_back(seats, ties, order), 1)
            for many in (0, 1, -1, 10 ** 60 - 1):
                self.assertEqual(fixed_after(seats, ties, order, many), factorial(seats))

    def test_one_tie_and_all_ties_but_one(self):
        for seats in (3, 4, 5):
            for ties in ([[1, 2]], full(seats)[1:]):
                for broken in all_broken(seats):
                    order = order_with(seats, broken)
                    self.assertEqual(backs_counted(seats, ties, order), counted(backs_everywhere(seats, ties, order)))


class TestFixedAfter(unittest.TestCase):
    def test_no_rounds_leave_all_standings(self):
        chance = random.Random(31)
        for seats in (3, 4, 5, 6, 7):
            for _ in range(3):
                told = (seats, some_net(seats, chance), some_order(seats, chance))
                self.assertEqual(fixed_after(*told, 0), factorial(seats))
        for ties in ([], ROW40, full(40)):
            self.assertEqual(fixed_after(40, ties, order_with(40, [2, 3]), 0), factorial(40))

    def test_no_fewer_rounds_leave_all_standings(self):
        chance = random.Random(32)
        for _ in range(30):
            seats = chance.randint(3, 6)
            ties, order = some_net(seats, chance), some_order(seats, chance)
            together = all_back(seats, ties, order)
            self.assertEqual(fixed_after(seats, ties, order, together), factorial(seats))
            for part in range(2, 30):
                if together % part == 0:
                    self.assertLess(fixed_after(seats, ties, order, together // part), factorial(seats))


def with_net(seats, ties, order=(1, 2, 3, 4)):
    order = list(order)
    return [
        (back_after, [seats, ties, [1, 2, 3, 4], order]), (backs_counted, [seats, ties, order]),
        (all_back, [seats, ties, order]), (fixed_after, [seats, ties, order, 1]),
    ]


class TestWrong(unittest.TestCase):
    def test_seats(self):
        for thing in no_counts():
            for function, told in with_net(thing, []) + with_net(thing, None):
                check_number(self, raised(function, *told), InvalidNumber, thing)

    def test_ties(self):
        for ties, index in no_nets():
            for function, told in with_net(4, ties):
                check_index(self, raised(function, *told), InvalidTies, index)

    def test_standing(self):
        for seats in (3, 4, 40):
            for standing, index in no_standings(seats):
                error = raised(back_after, seats, [], standing, list(range(1, seats + 1)))
                check_index(self, error, InvalidStanding, index)

    def test_order(self):
        for seats in (3, 4, 40):
            for order, index in no_standings(seats):
                for function, told in (
                    (back_after, [seats, [], list(range(1, seats + 1)), order]), (backs_counted, [seats, [], order]),
                    (all_back, [seats, [], order]), (fixed_after, [seats, [], order, 2]),
                ):
                    check_index(self, raised(function, *told), InvalidOrder, index)

    def test_many(self):
        for thing in no_numbers():
            for ties in ([], [[1, 2], [2, 3]], full(4)):
                error = raised(fixed_after, 4, ties, [1, 2, 3, 4], thing)
                check_number(self, error, InvalidNumber, thing)

    def test_the_first_argument_that_is_wrong_is_told(self):
        bad, touchy = [1, 1, 2, 3], Touchy()
        for order in (bad, None, touchy):
            for function, told in (
                (back_after, [bad, order]), (back_after, [touchy, order]), (backs_counted, [order]),
                (all_back, [order]), (fixed_after, [order, touchy]),
            ):
                check_number(self, raised(function, 41, None, *told), InvalidNumber, 41)
                check_index(self, raised(function, 4, [[1, 2], [2, 1]], *told), InvalidTies, 1)
            check_index(self, raised(back_after, 4, [[1, 2]], bad, order), InvalidStanding, 1)
            check_index(self, raised(back_after, 4, [[1, 2]], [1, 2, 3], order), InvalidStanding, None)
        check_index(self, raised(fixed_after, 4, [[1, 2]], bad, touchy), InvalidOrder, 1)
        check_index(self, raised(fixed_after, many=None, order=[1], ties=[], seats=4), InvalidOrder, None)

    def test_an_error_changes_nothing(self):
        ties, standing, order = [[1, 2]], [2, 1, 3], [1, 2, 2]
        for function, told in ((back_after, [3, ties, standing, order]), (backs_counted, [3, ties, order]),
                               (all_back, [3, ties, order]), (fixed_after, [3, ties, order, 1])):
            raised(function, *told)
        self.assertEqual((ties, standing, order), ([[1, 2]], [2, 1, 3], [1, 2, 2]))


class TestCalls(unittest.TestCase):
    def test_by_position_and_by_name(self):
        row, order = [[1, 2], [2, 3], [3, 4]], [1, 3, 2, 4]
        self.assertEqual(back_after(4, row, [1, 2, 4, 3], order=order), 2)
        self.assertEqual(back_after(order=order, standing=[1, 2, 4, 3], ties=row, seats=4), 2)
        self.assertEqual(backs_counted(order=order, ties=row, seats=4), [(2, 8), (4, 16)])
        self.assertEqual(all_back(order=order, ties=row, seats=4), 4)
        self.assertEqual(fixed_after(many=-2, order=order, ties=row, seats=4), 8)

    def test_results_are_new_and_arguments_stay(self):
        chance = random.Random(33)
        for seats, ties in ((3, [[1, 2]]), (5, some_net(5, chance)), (6, some_wood(6, 2, chance)), (40, []),
                            (40, ROW40), (40, full(40))):
            standing, order = some_order(seats, chance), some_order(seats, chance)
            check_result(self, back_after, seats, ties, standing, order)
            check_result(self, back_after, seats, ties, order, order)
            found = check_result(self, backs_counted, seats, ties, order)
            self.assertIs(found.__class__, list)
            self.assertEqual({one.__class__ for one in found}, {tuple})
            self.assertEqual({number.__class__ for one in found for number in one}, {int})
            check_result(self, all_back, seats, ties, order)
            check_result(self, fixed_after, seats, ties, order, 12)


class TestLargest(unittest.TestCase):
    def check_times(self, seats, ties, order, chance):
        for function, told in (
            (back_after, [some_order(seats, chance), order]), (backs_counted, [order]), (all_back, [order]),
            (fixed_after, [order, 10 ** 60 - 1]), (fixed_after, [order, -10 ** 60 + 1]),
        ):
            start = time.perf_counter()
            function(seats, ties, *told)
            self.assertLess(time.perf_counter() - start, 10)

    def test_forty_seats(self):
        chance = random.Random(34)
        for ties in ([], ROW40, some_row(40, chance), full(40)):
            for broken in (1, 2, 19, 20, 21, 39):
                self.check_times(40, ties, order_with(40, chance.sample(UP40, broken)), chance)

    def test_woods_of_forty_seats(self):
        chance = random.Random(35)
        for parts in (1, 2, 3, 20, 39):
            for order in (order_with(40, [17]), order_with(40, [17])[::-1]):
                self.check_times(40, some_wood(40, parts, chance), order, chance)
        self.check_times(40, row_of(UP40[:39]), UP40, chance)

    def test_seven_seats(self):
        chance = random.Random(36)
        for _ in range(25):
            self.check_times(7, some_net(7, chance), some_order(7, chance), chance)
