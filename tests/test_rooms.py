"""Promises [2], [3], [6] and [7] in rooms: deeds, what is shown behind them, and deeds taken back."""

import copy
import random
import time
import unittest

from apartcalls.errors import InvalidNumber, InvalidOrder, InvalidStanding, InvalidTies, NothingToUndo, UnknownCall
from apartcalls.rooms import Room
from tests.model import behind, full, nets, row_of, some_net, some_order, standings
from tests.things import (
    Touchy, check_index, check_number, no_counts, no_members, no_nets, no_standings, raised,
)

UP40 = list(range(1, 41))
ROW4 = [[1, 2], [2, 3], [3, 4]]


class Paper:
    """The deeds of a room, carried out by the words of the document: all that is not taken back is written down."""

    def __init__(self, ties, standing):
        self.ties = copy.deepcopy(ties)
        self.first = list(standing)
        self.deeds = []

    def standing(self):
        return self.deeds[-1][0] if self.deeds else self.first

    def changes(self):
        return sum(changes for _, changes in self.deeds)

    def make(self, calls):
        self.deeds.append(behind(self.ties, self.standing(), calls))
        return self.deeds[-1][1]


class TestRoom(unittest.TestCase):
    def check_shown(self, room, paper):
        self.assertEqual(room.standing, paper.standing())
        self.assertEqual(room.changes, paper.changes())
        self.assertEqual(len(room), len(paper.deeds))
        self.assertEqual(room.ties, paper.ties)
        self.assertEqual(room.seats, len(paper.first))
        self.assertIs(room.seats.__class__, int)
        self.assertIs(room.changes.__class__, int)


class TestSingleDeeds(TestRoom):
    def test_new(self):
        for seats in (3, 4, 40):
            for ties in ([], full(seats), [[2, 1]]):
                standing = list(range(seats, 0, -1))
                self.check_shown(Room(seats, ties, standing), Paper(ties, standing))

    def test_ties_are_shown_as_they_were_passed(self):
        ties = [[3, 1], [2, 4], [1, 2]]
        self.assertEqual(Room(4, ties, [1, 2, 3, 4]).ties, ties)
        self.assertEqual(Room(4, ties[::-1], [1, 2, 3, 4]).ties, ties[::-1])

    def test_each_call_on_each_small_net(self):
        for seats in (3, 4):
            for ties in nets(seats):
                for standing in standings(seats)[::3]:
                    for call in range(1, seats + 1):
                        room, paper = Room(seats, ties, standing), Paper(ties, standing)
                        self.assertIs(room.call(call), paper.make([call]) == 1)
                        self.check_shown(room, paper)

    def test_a_call_at_which_nothing_happens_is_a_deed(self):
        room = Room(4, full(4), [1, 2, 3, 4])
        self.assertIs(room.call(2), False)
        self.assertEqual((len(room), room.changes, room.standing), (1, 0, [1, 2, 3, 4]))
        self.assertEqual(room.round([4, 3, 2, 1]), 0)
        self.assertEqual((len(room), room.changes, room.standing), (2, 0, [1, 2, 3, 4]))
        self.assertIsNone(room.undo())
        self.assertEqual(len(room), 1)

    def test_a_call_twice(self):
        room = Room(4, [], [4, 1, 3, 2])
        self.assertEqual((room.call(4), room.call(4)), (True, True))
        self.assertEqual((room.standing, room.changes, len(room)), ([4, 1, 3, 2], 2, 2))

    def test_round_and_round_back(self):
        chance = random.Random(51)
        for _ in range(60):
            seats = chance.choice([3, 4, 5, 7, 40])
            ties, standing, order = some_net(seats, chance), some_order(seats, chance), some_order(seats, chance)
            room, paper = Room(seats, ties, standing), Paper(ties, standing)
            there = room.round(order)
            self.assertEqual(there, paper.make(order))
            self.assertIs(there.__class__, int)
            self.check_shown(room, paper)
            # A round backwards undoes it, but it is a deed of its own.
            self.assertEqual(room.round_back(order), there)
            paper.make(order[::-1])
            self.check_shown(room, paper)
            self.assertEqual((room.standing, len(room), room.changes), (standing, 2, 2 * there))

    def test_undo(self):
        room = Room(4, ROW4, [1, 2, 3, 4])
        room.round([1, 3, 2, 4])
        shown = (room.standing, room.changes)
        room.round_back([2, 1, 4, 3])
        room.call(4)
        self.assertIsNone(room.undo())
        self.assertIsNone(room.undo())
        self.assertEqual((room.standing, room.changes, len(room)), shown + (1,))
        self.assertIsNone(room.undo())
        self.assertEqual((room.standing, room.changes, len(room)), ([1, 2, 3, 4], 0, 0))

    def test_nothing_to_undo(self):
        room = Room(3, [], [1, 2, 3])
        for _ in range(2):
            self.assertIs(raised(room.undo).__class__, NothingToUndo)
            self.assertEqual((room.standing, room.changes, len(room)), ([1, 2, 3], 0, 0))
        room.call(1)
        room.undo()
        self.assertIs(raised(room.undo).__class__, NothingToUndo)
        room.call(2)
        self.assertEqual((room.standing, len(room)), ([1, 3, 2], 1))


class TestRun(TestRoom):
    def test_standings_behind_each_call(self):
        room, paper = Room(4, ROW4, [2, 4, 1, 3]), Paper(ROW4, [2, 4, 1, 3])
        found = list(room.run([1, 1, 4, 2, 3, 4]))
        wanted = []
        for call in [1, 1, 4, 2, 3, 4]:
            paper.make([call])
            wanted.append(paper.standing())
        self.assertEqual(found, wanted)
        self.check_shown(room, paper)

    def test_nothing_is_made_before_it_is_asked_for(self):
        room, paper = Room(4, [], [1, 2, 3, 4]), Paper([], [1, 2, 3, 4])
        run = room.run([1, 2, 3])
        self.check_shown(room, paper)
        for call in (1, 2):
            self.assertEqual(next(run), behind([], paper.standing(), [call])[0])
            paper.make([call])
            self.check_shown(room, paper)
        run.close()
        self.check_shown(room, paper)
        self.assertEqual(list(run), [])
        self.check_shown(room, paper)

    def test_a_run_that_is_let_go(self):
        room, paper = Room(5, [[1, 3]], [5, 4, 3, 2, 1]), Paper([[1, 3]], [5, 4, 3, 2, 1])
        for _ in room.run([4, 5, 1, 2]):
            paper.make([[4, 5, 1, 2][len(paper.deeds)]])
            if len(paper.deeds) == 3:
                break
        self.check_shown(room, paper)

    def test_no_calls(self):
        room = Room(3, [], [1, 2, 3])
        self.assertEqual(list(room.run([])), [])
        self.assertEqual(len(room), 0)
        run = room.run([1])
        self.assertEqual(list(run), [[2, 1, 3]])
        # At its end it has ended, whatever comes later.
        self.assertEqual(list(run), [])
        self.assertEqual(len(room), 1)

    def test_a_thing_that_is_no_call(self):
        for seats in (3, 4, 40):
            up = list(range(1, seats + 1))
            for thing in no_members(seats):
                room, paper = Room(seats, [[1, 3]], up), Paper([[1, 3]], up)
                run = room.run([3, 1, thing, 2])
                self.assertEqual(next(run), behind([[1, 3]], up, [3])[0])
                next(run)
                paper.make([3])
                paper.make([1])
                self.check_shown(room, paper)
                check_number(self, raised(next, run), UnknownCall, thing)
                # The deeds ahead of it stay made, and the generator has ended.
                self.check_shown(room, paper)
                self.assertEqual(list(run), [])
                self.check_shown(room, paper)

    def test_a_wrong_thing_is_not_looked_at_ahead(self):
        room = Room(3, [], [1, 2, 3])
        for thing in (None, Touchy(), 0):
            run = room.run([1, thing])
            next(run)
            run.close()
        self.assertEqual((len(room), room.changes), (3, 3))
        check_number(self, raised(next, room.run([4])), UnknownCall, 4)
        self.assertEqual(len(room), 3)

    def test_a_list_that_is_changed_meanwhile(self):
        def made(change):
            room, calls = Room(4, [], [1, 2, 3, 4]), [1, 2, 3, 4]
            run = room.run(calls)
            next(run)
            next(run)
            change(calls)
            paper = Paper([], [1, 2, 3, 4])
            paper.make([1])
            paper.make([2])
            for call, standing in zip(calls[2:], list(run)):
                paper.make([call])
                self.assertEqual(standing, paper.standing())
            self.check_shown(room, paper)
            return len(room)

        self.assertEqual(made(lambda calls: calls.append(1)), 5)
        self.assertEqual(made(lambda calls: calls.extend([3, 3, 3])), 7)
        self.assertEqual(made(lambda calls: calls.pop()), 3)
        self.assertEqual(made(lambda calls: calls.clear()), 2)
        self.assertEqual(made(lambda calls: calls.pop(0)), 3)
        self.assertEqual(made(lambda calls: calls.insert(0, 4)), 5)
        self.assertEqual(made(lambda calls: calls.reverse()), 4)
        self.assertEqual(made(lambda calls: calls.__setitem__(2, 1)), 4)

    def test_a_call_that_becomes_wrong_or_right_meanwhile(self):
        room, calls = Room(4, [], [1, 2, 3, 4]), [1, None, 2]
        run = room.run(calls)
        next(run)
        calls[1], calls[2] = 3, 9
        self.assertEqual(next(run), [2, 1, 4, 3])
        check_number(self, raised(next, run), UnknownCall, 9)
        calls.append(1)
        self.assertEqual(list(run), [])
        self.assertEqual(len(room), 2)

    def test_a_list_that_grows_at_each_step(self):
        room, calls = Room(3, [], [1, 2, 3]), [1]
        for standing in room.run(calls):
            self.assertEqual(standing, room.standing)
            if len(calls) < 50:
                calls.append(len(calls) % 3 + 1)
        self.assertEqual(len(room), 50)

    def test_other_deeds_in_between(self):
        room, paper = Room(5, [[2, 5]], [3, 1, 5, 2, 4]), Paper([[2, 5]], [3, 1, 5, 2, 4])
        first, second = room.run([1, 2, 3, 4]), room.run([5, 5, 1, 3])
        for one, other in ((1, 5), (2, 5), (3, 1), (4, 3)):
            paper.make([one])
            self.assertEqual(next(first), paper.standing())
            self.assertEqual(room.round([5, 3, 1, 2, 4]), paper.make([5, 3, 1, 2, 4]))
            room.undo()
            paper.deeds.pop()
            paper.make([other])
            self.assertEqual(next(second), paper.standing())
            room.undo()
            paper.deeds.pop()
            self.check_shown(room, paper)
        self.assertEqual((list(first), list(second)), ([], []))

    def test_yielded_lists_are_new(self):
        room = Room(4, [], [1, 2, 3, 4])
        calls = [1, 2, 3, 4, 4, 3]
        found = []
        for standing in room.run(calls):
            self.assertEqual(standing, room.standing)
            self.assertIs(standing.__class__, list)
            found.append(standing)
            standing.reverse()
        self.assertEqual(len({id(standing) for standing in found}), 6)
        self.assertEqual(calls, [1, 2, 3, 4, 4, 3])
        self.assertEqual(room.standing, behind([], [1, 2, 3, 4], calls)[0])


class TestLongRows(TestRoom):
    """Long rows of deeds of all kinds, each carried out on paper too."""

    def deed(self, room, paper, chance):
        seats = len(paper.first)
        kind = chance.choice(
            ["call", "call", "round", "round_back", "run", "broken", "wrong", "changed", "undo", "undo"])
        if kind == "call":
            call = chance.randint(1, seats)
            self.assertIs(room.call(call), paper.make([call]) == 1)
        elif kind == "round":
            order = some_order(seats, chance)
            self.assertEqual(room.round(order), paper.make(order))
        elif kind == "round_back":
            order = some_order(seats, chance)
            self.assertEqual(room.round_back(order), paper.make(order[::-1]))
        elif kind == "undo":
            if paper.deeds:
                self.assertIsNone(room.undo())
                paper.deeds.pop()
            else:
                self.assertIs(raised(room.undo).__class__, NothingToUndo)
        else:
            self.run_calls(kind, room, paper, chance)

    def run_calls(self, kind, room, paper, chance):
        seats = len(paper.first)
        calls = [chance.randint(1, seats) for _ in range(chance.randint(0, 6))]
        stop = chance.randint(0, len(calls))
        if kind == "wrong":
            wrong = chance.choice([0, seats + 1, -1, True, None, "1", [1]])
            calls.insert(stop, wrong)
        run = room.run(calls)
        for at in range(stop):
            paper.make([calls[at]])
            self.assertEqual(next(run), paper.standing())
        if kind == "wrong":
            check_number(self, raised(next, run), UnknownCall, wrong)
        if kind == "changed":
            calls[stop:] = [chance.randint(1, seats) for _ in range(chance.randint(0, 3))]
        if kind in ("run", "changed"):
            for call, standing in zip(calls[stop:], list(run), strict=True):
                paper.make([call])
                self.assertEqual(standing, paper.standing())

    def wrong_deed(self, room, chance):
        up = list(range(1, room.seats + 1))
        function, told, error = chance.choice([
            (room.call, 0, UnknownCall), (room.call, room.seats + 1, UnknownCall), (room.call, True, UnknownCall),
            (room.round, up[:-1], InvalidOrder), (room.round, up + [1], InvalidOrder),
            (room.round_back, [1] + up[:-1], InvalidOrder), (room.round_back, None, InvalidOrder),
            (room.round, up[:-1] + [0], InvalidOrder), (room.round_back, up[:-1] + [None], InvalidOrder),
        ])
        self.assertIs(raised(function, told).__class__, error)

    def test_rows_of_deeds(self):
        chance = random.Random(52)
        for seats in (3, 4, 5, 6, 9, 17, 40):
            for _ in range(6):
                ties, standing = some_net(seats, chance), some_order(seats, chance)
                room, paper = Room(seats, ties, standing), Paper(ties, standing)
                for _ in range(120):
                    self.deed(room, paper, chance)
                    self.check_shown(room, paper)
                    if chance.random() < 0.1:
                        self.wrong_deed(room, chance)
                        self.check_shown(room, paper)
                while paper.deeds:
                    self.assertIsNone(room.undo())
                    paper.deeds.pop()
                    self.check_shown(room, paper)
                self.assertIs(raised(room.undo).__class__, NothingToUndo)
                self.check_shown(room, paper)

    def test_two_rooms_do_not_hang_together(self):
        chance = random.Random(53)
        for seats in (3, 4, 7, 40):
            ties, standing = some_net(seats, chance), some_order(seats, chance)
            rooms = [(Room(seats, ties, standing), Paper(ties, standing)) for _ in range(3)]
            for _ in range(200):
                room, paper = chance.choice(rooms)
                self.deed(room, paper, chance)
                for one, other in rooms:
                    self.check_shown(one, other)


class TestLists(TestRoom):
    def test_a_room_copies_the_lists_that_it_is_made_with(self):
        ties, standing = [[1, 2], [2, 3]], [4, 2, 1, 3]
        room, paper = Room(4, ties, standing), Paper(ties, standing)
        ties[0][0] = 4
        ties.pop()
        standing.reverse()
        self.check_shown(room, paper)
        for order in ([1, 2, 3, 4], [3, 1, 4, 2]):
            self.assertEqual(room.round(order), paper.make(order))
            self.check_shown(room, paper)
        room.undo()
        room.undo()
        self.assertEqual(room.standing, [4, 2, 1, 3])

    def test_the_lists_that_it_was_made_with_stay(self):
        ties, standing, order = [[1, 2], [3, 2]], [4, 2, 1, 3], [3, 1, 4, 2]
        kept = copy.deepcopy((ties, standing, order))
        inner = list(map(id, ties))
        room = Room(4, ties, standing)
        room.round(order)
        room.round_back(order[::-1])
        list(room.run(order))
        room.undo()
        self.assertEqual((ties, standing, order), kept)
        self.assertEqual(list(map(id, ties)), inner)

    def test_what_is_shown_is_new(self):
        ties, standing = [[1, 2], [2, 3]], [4, 2, 1, 3]
        room, paper = Room(4, ties, standing), Paper(ties, standing)
        for order in ([1, 2, 3, 4], [2, 4, 1, 3]):
            shown = room.ties, room.standing, room.ties, room.standing
            lists = list(shown) + shown[0] + shown[2] + ties + [ties, standing]
            self.assertEqual(len({id(one) for one in lists}), len(lists))
            for one in (*shown[0], *shown[2], *shown):
                one[:] = [1, 1]
            self.check_shown(room, paper)
            room.round(order)
            paper.make(order)
            self.check_shown(room, paper)

    def test_orders_may_be_changed_later(self):
        room, paper = Room(4, ROW4, [1, 2, 3, 4]), Paper(ROW4, [1, 2, 3, 4])
        order = [1, 3, 2, 4]
        room.round(order)
        paper.make(order)
        room.round_back(order)
        order.clear()
        room.undo()
        self.check_shown(room, paper)
        room.undo()
        self.assertEqual(room.standing, [1, 2, 3, 4])

    def test_one_list_object_may_be_several_arguments(self):
        both = [2, 3, 1]
        room = Room(3, [], both)
        room.round(both)
        self.assertEqual(both, [2, 3, 1])
        self.assertEqual(room.standing, behind([], both, both)[0])


class TestWrong(TestRoom):
    def test_seats(self):
        for thing in no_counts():
            for ties, standing in (([], [1, 2, 3]), (None, None), (Touchy(), Touchy())):
                check_number(self, raised(Room, thing, ties, standing), InvalidNumber, thing)
                check_number(self, raised(Room, standing=standing, ties=ties, seats=thing), InvalidNumber, thing)

    def test_ties(self):
        for ties, index in no_nets():
            for standing in ([1, 2, 3, 4], [1, 1, 2, 3], Touchy()):
                check_index(self, raised(Room, 4, ties, standing), InvalidTies, index)

    def test_standing(self):
        for seats in (3, 4, 40):
            for standing, index in no_standings(seats):
                check_index(self, raised(Room, seats, [], standing), InvalidStanding, index)

    def test_calls(self):
        for seats in (3, 4, 40):
            up = list(range(1, seats + 1))
            room, paper = Room(seats, [], up), Paper([], up)
            room.call(2)
            paper.make([2])
            for thing in no_members(seats):
                check_number(self, raised(room.call, thing), UnknownCall, thing)
                check_number(self, raised(room.call, number=thing), UnknownCall, thing)
                self.check_shown(room, paper)

    def test_orders(self):
        for seats in (3, 4, 40):
            up = list(range(1, seats + 1))
            room, paper = Room(seats, [[1, 2]], up), Paper([[1, 2]], up)
            room.round(up)
            paper.make(up)
            for order, index in no_standings(seats):
                for function in (room.round, room.round_back):
                    check_index(self, raised(function, order), InvalidOrder, index)
                    check_index(self, raised(function, order=order), InvalidOrder, index)
            self.check_shown(room, paper)

    def test_errors_leave_the_way_back(self):
        room = Room(3, [], [1, 2, 3])
        room.call(1)
        raised(room.call, 4)
        raised(room.round, [1, 2])
        raised(room.round_back, [1, 1, 2])
        raised(next, room.run([None]))
        room.undo()
        self.assertEqual((room.standing, len(room)), ([1, 2, 3], 0))
        raised(room.undo)
        self.assertIs(room.call(3), True)
        self.assertEqual((room.standing, room.changes), ([3, 2, 1], 1))


class TestNames(TestRoom):
    def test_by_position_and_by_name(self):
        for room in (Room(4, ROW4, [1, 2, 3, 4]), Room(standing=[1, 2, 3, 4], ties=ROW4, seats=4),
                     Room(4, ROW4, standing=[1, 2, 3, 4])):
            self.assertIs(room.call(number=4), True)
            self.assertEqual(room.round(order=[1, 3, 2, 4]), 3)
            self.assertEqual(room.round_back(order=[1, 3, 2, 4]), 3)
            self.assertEqual(list(room.run(calls=[2])), [behind(ROW4, room.standing, [2])[0]])


class TestLargest(TestRoom):
    def test_three_thousand_deeds(self):
        chance = random.Random(54)
        for ties in ([], row_of(UP40), some_net(40, chance)):
            order, standing = some_order(40, chance), some_order(40, chance)
            room = Room(40, ties, standing)
            start = time.perf_counter()
            changes = sum(room.round(order) + room.round_back(order[::-1]) for _ in range(1500))
            self.assertEqual(len(room), 3000)
            self.assertEqual(room.standing, behind(ties, standing, order * 3000)[0])
            self.assertEqual(room.changes, changes)
            for _ in range(3000):
                room.undo()
            self.assertLess(time.perf_counter() - start, 10)
            self.assertEqual((room.standing, room.changes, len(room)), (standing, 0, 0))

    def test_a_run_of_two_thousand_calls(self):
        chance = random.Random(55)
        ties, standing = some_net(40, chance), some_order(40, chance)
        calls = [chance.randint(1, 40) for _ in range(2000)]
        room = Room(40, ties, standing)
        start = time.perf_counter()
        found = list(room.run(calls))
        self.assertLess(time.perf_counter() - start, 10)
        self.assertEqual((len(found), found[-1]), (2000, behind(ties, standing, calls)[0]))
        self.assertEqual(len(room), 2000)
