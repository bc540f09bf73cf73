"""Promises [2], [3], [6], [7], [8] and [9]: calls, rounds, and any number of rounds."""

import random
import time
import unittest
from itertools import product

from apartcalls.errors import InvalidCalls, InvalidNumber, InvalidOrder, InvalidStanding, InvalidTies
from apartcalls.rounds import after_rounds, called
from tests.model import (
    back_in_row, back_in_wood, backs_everywhere, behind, breaks_by_words, full, nets, next_to, order_with, orders,
    orders_by_breaks, round_everywhere, row_of, some_net, some_order, some_row, some_wood, standings, turned,
)
from tests.things import (
    Touchy, check_index, check_number, check_result, no_counts, no_lists, no_members, no_nets, no_numbers,
    no_standings, raised,
)

UP40 = list(range(1, 41))
ROW40 = row_of(UP40)
GREAT = [10 ** 59 + 7, 10 ** 60 - 1, 3 ** 125, 2 ** 190, -10 ** 59 - 11, -(10 ** 60 - 1), 720720 ** 10]


class TestCalled(unittest.TestCase):
    def test_each_call_on_each_small_net(self):
        for seats in (3, 4):
            for ties in nets(seats):
                for standing in standings(seats):
                    for call in range(1, seats + 1):
                        self.assertEqual(called(seats, ties, standing, [call]), behind(ties, standing, [call])[0])

    def test_the_last_call_names_the_last_person_and_the_first_one(self):
        for seats in range(3, 41):
            up = list(range(1, seats + 1))
            self.assertEqual(called(seats, [], up, [seats]), [seats] + up[1:-1] + [1])
            self.assertEqual(called(seats, [[seats, 1]], up, [seats]), up)
            self.assertEqual(called(seats, [[1, 2]], up, [seats]), [seats] + up[1:-1] + [1])

    def test_all_short_rows_of_calls(self):
        ties = [[3, 1], [2, 4]]
        for many in range(5):
            for calls in product([1, 2, 3, 4], repeat=many):
                self.assertEqual(called(4, ties, [2, 4, 3, 1], list(calls)), behind(ties, [2, 4, 3, 1], calls)[0])

    def test_no_calls(self):
        for seats in (3, 4, 40):
            standing = list(range(seats, 0, -1))
            self.assertEqual(called(seats, [[1, 2]], standing, []), standing)

    def test_a_call_twice_changes_nothing(self):
        chance = random.Random(1)
        for _ in range(100):
            seats = chance.randint(3, 40)
            ties, standing = some_net(seats, chance), some_order(seats, chance)
            call = chance.randint(1, seats)
            self.assertEqual(called(seats, ties, standing, [call, call]), standing)

    def test_no_ties_and_all_ties(self):
        chance = random.Random(2)
        for seats in (3, 7, 40):
            standing = some_order(seats, chance)
            calls = [chance.randint(1, seats) for _ in range(100)]
            self.assertEqual(called(seats, full(seats), standing, calls), standing)
            self.assertEqual(called(seats, [], standing, calls), behind([], standing, calls)[0])

    def test_long_rows_of_calls(self):
        chance = random.Random(3)
        for _ in range(30):
            seats = chance.randint(3, 40)
            ties, standing = some_net(seats, chance), some_order(seats, chance)
            calls = [chance.randint(1, seats) for _ in range(chance.randint(0, 300))]
            self.assertEqual(called(seats, ties, standing, calls), behind(ties, standing, calls)[0])


class TestAfterRounds(unittest.TestCase):
    def test_one_round_on_all_small_nets(self):
        for seats in (3, 4):
            for ties in nets(seats):
                for order in orders(seats):
                    for standing, then in round_everywhere(seats, ties, order).items():
                        self.assertEqual(after_rounds(seats, ties, list(standing), order), list(then))

    def test_many_is_1_where_it_is_left_out(self):
        chance = random.Random(4)
        for _ in range(50):
            seats = chance.randint(3, 40)
            told = (seats, some_net(seats, chance), some_order(seats, chance), some_order(seats, chance))
            self.assertEqual(after_rounds(*told), after_rounds(*told, 1))
            self.assertEqual(after_rounds(*told), called(*told))

    def test_no_rounds(self):
        chance = random.Random(5)
        for seats in (3, 4, 40):
            standing = some_order(seats, chance)
            self.assertEqual(after_rounds(seats, some_net(seats, chance), standing, list(standing), 0), standing)

    def test_rounds_one_after_the_other(self):
        chance = random.Random(6)
        for _ in range(40):
            seats = chance.choice([3, 4, 5, 6, 7, 13, 40])
            ties, order = some_net(seats, chance), some_order(seats, chance)
            start = forwards = backwards = some_order(seats, chance)
            for many in range(1, 25):
                forwards = behind(ties, forwards, order)[0]
                backwards = behind(ties, backwards, order[::-1])[0]
                self.assertEqual(after_rounds(seats, ties, start, order, many), forwards)
                self.assertEqual(after_rounds(seats, ties, start, order, -many), backwards)
                self.assertEqual(after_rounds(seats, ties, forwards, order, -many), start)
                self.assertEqual(after_rounds(seats, ties, backwards, order, many), start)

    def test_great_numbers_on_small_nets(self):
        chance = random.Random(7)
        for seats in (3, 4, 5, 6):
            for _ in range(12):
                ties, order = some_net(seats, chance), some_order(seats, chance)
                backs = backs_everywhere(seats, ties, order)
                for many in chance.sample(GREAT, 3) + [1001, -1001, 10 ** 6]:
                    standing = some_order(seats, chance)
                    wanted = standing
                    for _ in range(many % backs[tuple(standing)]):
                        wanted = behind(ties, wanted, order)[0]
                    self.assertEqual(after_rounds(seats, ties, standing, order, many), wanted)

    def check_rest(self, seats, ties, standing, order, rounds, many):
        """A standing that is back after so many rounds: of a great number of them only the rest counts."""
        start = time.perf_counter()
        found = after_rounds(seats, ties, standing, order, many)
        self.assertLess(time.perf_counter() - start, 10)
        wanted = list(standing)
        rest = many % rounds
        for _ in range(min(rest, rounds - rest)):
            wanted = behind(ties, wanted, order if rest <= rounds - rest else order[::-1])[0]
        self.assertEqual(found, wanted)

    def test_great_numbers_on_nets_of_forty_seats(self):
        chance = random.Random(8)
        for broken in (1, 2, 7, 20, 39):
            order = order_with(40, chance.sample(UP40, broken))
            standing = some_order(40, chance)
            ties = some_row(40, chance)
            together = max(back_in_row(40, broken))
            self.check_rest(40, ties, standing, order, together, together * 10 ** 57 + 3)
            self.check_rest(40, ties, standing, order, together, -together * 10 ** 57 - 2)
            self.check_rest(40, [], standing, order, broken * (40 - broken), 10 ** 59 * broken * (40 - broken) + 5)
            self.assertEqual(after_rounds(40, full(40), standing, order, 10 ** 60 - 1), standing)

    def test_great_numbers_on_woods_of_forty_seats(self):
        chance = random.Random(9)
        for parts in (1, 2, 3, 17, 39):
            for call in (1, 40, 23):
                ties, standing = some_wood(40, parts, chance), some_order(40, chance)
                order = order_with(40, [call])
                for turn in (order, order[::-1]):
                    rounds = back_in_wood(ties, standing, turn)
                    self.check_rest(40, ties, standing, turn, rounds, rounds * 10 ** 56 + 4)
                    self.check_rest(40, ties, standing, turn, rounds, -rounds * 10 ** 56 - 1)

    def test_the_longest_way_back_in_a_wood(self):
        # A part of 39 seats: 39 * 39 rounds, and the last one of them is as far off as can be.
        ties = row_of(list(range(1, 40)))
        order = order_with(40, [40])
        self.assertEqual(back_in_wood(ties, UP40, order), 1521)
        for many in (1521 * 10 ** 56 - 1, 1 - 1521 * 10 ** 56):
            self.check_rest(40, ties, UP40, order, 1521, many)


class TestAlike(unittest.TestCase):
    def test_alike_orders_make_the_same_round_and_just_these(self):
        for seats in (3, 4):
            rounds = {}
            for order in orders(seats):
                told = tuple(
                    tuple(after_rounds(seats, ties, standing, order))
                    for ties in nets(seats) for standing in standings(seats)
                )
                rounds.setdefault(told, set()).add(tuple(breaks_by_words(order)))
            self.assertTrue(all(len(broken) == 1 for broken in rounds.values()))
            self.assertEqual(len(rounds), 2 ** seats - 2)

    def test_alike_orders_of_any_size(self):
        chance = random.Random(10)
        for alike in orders_by_breaks(6).values():
            ties, standing = some_net(6, chance), some_order(6, chance)
            told = [after_rounds(6, ties, standing, order, 3) for order in alike[:20]]
            self.assertTrue(all(one == told[0] for one in told))
        for _ in range(30):
            seats = chance.randint(7, 40)
            ties, standing, order = (some_net(seats, chance), some_order(seats, chance), some_order(seats, chance))
            other = order_with(seats, breaks_by_words(order))
            self.assertEqual(
                after_rounds(seats, ties, standing, order, 5), after_rounds(seats, ties, standing, other, 5))


class TestTurnedOn(unittest.TestCase):
    def test_turned_by_one_call(self):
        chance = random.Random(11)
        for seats in (3, 4, 5, 6, 40):
            for _ in range(20):
                ties, standing, order = (some_net(seats, chance), some_order(seats, chance), some_order(seats, chance))
                for call in range(1, seats + 1):
                    other = turned(order, call)
                    if other is not None:
                        way = called(seats, ties, standing, [call])
                        way = called(seats, ties, after_rounds(seats, ties, way, other), [call])
                        self.assertEqual(way, after_rounds(seats, ties, standing, order))

    def test_which_breaks_are_turned(self):
        for order in orders(5):
            for call, other in ((order[0], order[1:] + order[:1]), (order[-1], order[-1:] + order[:-1])):
                before = next(one for one in order if next_to(one, 5) == call)
                self.assertEqual(
                    set(breaks_by_words(order)) ^ set(breaks_by_words(other)), {call, before})


def with_net(seats, ties, standing=(1, 2, 3, 4), order=(1, 2, 3, 4)):
    standing, order = list(standing), list(order)
    return [
        (called, [seats, ties, standing, order]), (after_rounds, [seats, ties, standing, order]),
        (after_rounds, [seats, ties, standing, order, 2]),
    ]


class TestWrong(unittest.TestCase):
    def test_seats(self):
        for thing in no_counts():
            for function, told in with_net(thing, []) + with_net(thing, None):
                check_number(self, raised(function, *told), InvalidNumber, thing)

    def test_ties(self):
        for ties, index in no_nets():
            for function, told in with_net(4, ties):
                check_index(self, raised(function, *told), InvalidTies, index)

    def test_standing(self):
        for seats in (3, 4, 40):
            for standing, index in no_standings(seats):
                for function in (called, after_rounds):
                    error = raised(function, seats, [], standing, list(range(1, seats + 1)))
                    check_index(self, error, InvalidStanding, index)

    def test_order(self):
        for seats in (3, 4, 40):
            for order, index in no_standings(seats):
                error = raised(after_rounds, seats, [], list(range(1, seats + 1)), order, 0)
                check_index(self, error, InvalidOrder, index)

    def test_calls(self):
        for thing in no_lists():
            check_index(self, raised(called, 4, [], [1, 2, 3, 4], thing), InvalidCalls, None)
        for seats in (3, 4, 40):
            up = list(range(1, seats + 1))
            for thing in no_members(seats):
                for calls in (
                    [thing], [1, thing], [2, 2, 1, thing, 0, None, Touchy()], up + [thing], up * 60 + [thing],
                ):
                    index = [one is thing for one in calls].index(True)
                    check_index(self, raised(called, seats, [], up, calls), InvalidCalls, index)

    def test_calls_may_stand_there_more_than_once(self):
        self.assertEqual(called(3, [], [1, 2, 3], [2, 2, 2, 1, 1]), [1, 3, 2])

    def test_many(self):
        for thing in no_numbers():
            error = raised(after_rounds, 4, [], [1, 2, 3, 4], [1, 2, 3, 4], thing)
            check_number(self, error, InvalidNumber, thing)
            error = raised(after_rounds, many=thing, order=[1, 2, 3, 4], standing=[1, 2, 3, 4], ties=[], seats=4)
            check_number(self, error, InvalidNumber, thing)

    def test_the_first_argument_that_is_wrong_is_told(self):
        row, bad, touchy = [1, 2, 3, 4], [1, 1, 2, 3], Touchy()
        for function, last in ((called, []), (after_rounds, [touchy]), (after_rounds, [True])):
            for rest in (row, bad, None, touchy):
                check_number(self, raised(function, 2, None, bad, rest, *last), InvalidNumber, 2)
                check_index(self, raised(function, 4, [[1, 2], [1, 2]], touchy, rest, *last), InvalidTies, 1)
                check_index(self, raised(function, 4, [[1, 2]], bad, rest, *last), InvalidStanding, 1)
                check_index(self, raised(function, 5, [[1, 2]], row, rest, *last), InvalidStanding, None)
        check_index(self, raised(after_rounds, 4, [], row, [1, 2, 4, 4], touchy), InvalidOrder, 3)
        check_index(self, raised(after_rounds, 4, [], row, [1, 2, 3], touchy), InvalidOrder, None)
        check_index(self, raised(called, 4, [], row, [4, 4, 5, None]), InvalidCalls, 2)

    def test_an_error_changes_nothing(self):
        ties, standing, calls = [[1, 2]], [2, 1, 3], [1, 2, 4]
        raised(called, 3, ties, standing, calls)
        raised(after_rounds, 3, ties, standing, calls)
        raised(after_rounds, 3, ties, standing, [1, 2, 3], None)
        self.assertEqual((ties, standing, calls), ([[1, 2]], [2, 1, 3], [1, 2, 4]))


class TestCalls(unittest.TestCase):
    def test_by_position_and_by_name(self):
        ties, standing, order = [[1, 2], [2, 3], [3, 4]], [1, 2, 3, 4], [1, 3, 2, 4]
        for found in (
            called(4, ties, standing, calls=order), called(calls=order, standing=standing, ties=ties, seats=4),
            after_rounds(4, ties, standing, order=order), after_rounds(4, ties, standing, order, many=1),
            after_rounds(order=order, standing=standing, ties=ties, seats=4),
        ):
            self.assertEqual(found, [4, 2, 3, 1])
        self.assertEqual(after_rounds(many=2, order=order, standing=standing, ties=ties, seats=4), [2, 1, 4, 3])

    def test_results_are_new_and_arguments_stay(self):
        chance = random.Random(12)
        for seats in (3, 5, 40):
            for ties in ([], full(seats), some_net(seats, chance)):
                standing, order = some_order(seats, chance), some_order(seats, chance)
                check_result(self, called, seats, ties, standing, [])
                check_result(self, called, seats, ties, standing, order)
                for many in (0, 1, -1, 7, -7):
                    check_result(self, after_rounds, seats, ties, standing, order, many)

    def test_one_list_object_may_be_several_arguments(self):
        for seats in (3, 4, 40):
            both = list(range(1, seats + 1))
            for ties in ([], full(seats)):
                self.assertEqual(called(seats, ties, both, both), behind(ties, both, both)[0])
                self.assertEqual(after_rounds(seats, ties, both, both, -1), behind(ties, both, both[::-1])[0])
            check_result(self, called, seats, [], both, both)
            check_result(self, after_rounds, seats, [], both, both)

    def test_kinds_of_results(self):
        for found in (called(3, [], [1, 2, 3], [1]), after_rounds(3, [], [1, 2, 3], [1, 2, 3], 10 ** 50)):
            self.assertIs(found.__class__, list)
            self.assertEqual({one.__class__ for one in found}, {int})


class TestLargest(unittest.TestCase):
    def check_time(self, function, *told):
        start = time.perf_counter()
        found = function(*told)
        self.assertLess(time.perf_counter() - start, 10)
        return found

    def test_two_thousand_calls(self):
        chance = random.Random(13)
        for ties in ([], ROW40, full(40), some_net(40, chance)):
            calls = [chance.randint(1, 40) for _ in range(2000)]
            self.assertEqual(self.check_time(called, 40, ties, UP40, calls), behind(ties, UP40, calls)[0])

    def test_a_thousand_rounds_on_any_net(self):
        chance = random.Random(14)
        for _ in range(3):
            ties, standing, order = some_net(40, chance), some_order(40, chance), some_order(40, chance)
            for many in (1000, -1000):
                wanted = behind(ties, standing, (order if many > 0 else order[::-1]) * 1000)[0]
                self.assertEqual(self.check_time(after_rounds, 40, ties, standing, order, many), wanted)

    def test_seven_seats_with_any_net(self):
        chance = random.Random(15)
        for _ in range(30):
            ties, standing, order = some_net(7, chance), some_order(7, chance), some_order(7, chance)
            many = chance.choice(GREAT)
            found = self.check_time(after_rounds, 7, ties, standing, order, many)
            self.assertEqual(self.check_time(after_rounds, 7, ties, found, order, -many), standing)
            rounds, now = 1, behind(ties, standing, order)[0]
            while now != standing:
                rounds, now = rounds + 1, behind(ties, now, order)[0]
            wanted = standing
            for _ in range(many % rounds):
                wanted = behind(ties, wanted, order)[0]
            self.assertEqual(found, wanted)
