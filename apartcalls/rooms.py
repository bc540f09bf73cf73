"""Rooms: people on the seats of a net, who are called by deeds."""

from apartcalls.checks import check_call, check_net, check_order_of, check_standing
from apartcalls.errors import NothingToUndo
from apartcalls.moves import people_called, places_after, places_of, standing_of, tied_seats


class Room:
    """People on the seats of a net; each deed can be taken back."""

    def __init__(self, seats, ties, standing):
        check_net(seats, ties)
        check_standing(standing, seats)
        self._seats = seats
        self._ties = [list(tie) for tie in ties]
        self._tied = tied_seats(seats, ties)
        self._places = places_of(standing)
        self._changes = 0
        # For each deed that is not taken back, the places and the number of changes ahead of it.
        self._earlier = []

    def __len__(self):
        return len(self._earlier)

    @property
    def seats(self):
        """The number of seats."""
        return self._seats

    @property
    def ties(self):
        """The ties of the net."""
        return [list(tie) for tie in self._ties]

    @property
    def standing(self):
        """The standing now."""
        return standing_of(self._places)

    @property
    def changes(self):
        """The number of calls, of deeds that are not taken back, at which two people changed seats."""
        return self._changes

    def call(self, number):
        """Makes a call, and returns whether two people changed seats."""
        check_call(number, self._seats)
        return self._make_calls([number]) == 1

    def round(self, order):
        """Makes a round in an order, and returns at how many of its calls people changed seats."""
        check_order_of(order, self._seats)
        return self._make_calls(order)

    def round_back(self, order):
        """Makes a round backwards in an order, and returns at how many of its calls people changed seats."""
        check_order_of(order, self._seats)
        return self._make_calls(order[::-1])

    def run(self, calls):
        """Makes the calls of a list, each as it is found when it is asked for, and yields the standing behind each."""
        at = 0
        while at < len(calls):
            self.call(calls[at])
            yield self.standing
            at += 1

    def undo(self):
        """Takes back the last deed that is not taken back yet."""
        if len(self._earlier) == 0:
            raise NothingToUndo()
        self._places, self._changes = self._earlier.pop()

    def _make_calls(self, calls):
        """Makes calls as one deed, and returns at how many of them people changed seats."""
        places = self._places
        changed = 0
        for pair in people_called(calls, self._seats):
            moved = places_after(places, [pair], self._tied)
            if moved != places:
                changed += 1
            places = moved
        self._earlier.append((self._places, self._changes))
        self._places = places
        self._changes += changed
        return changed
