"""Calls that are made: who changes seats, and where all sit then.

Here a standing is kept the other way about, as places: the seat of each person, at the person's index (at index 0, of
which there is no person, 0). So the seats of the two who are called need not be looked for.
"""

from apartcalls.orders import next_call


def places_of(standing):
    """The places in a standing."""
    return turned_about([0, *standing])


def standing_of(places):
    """The standing with such places."""
    return turned_about(places)[1:]


def turned_about(row):
    """The list that has each index of a row of the numbers from 0 on at the index that is its number."""
    found = list(row)
    for at, number in enumerate(row):
        found[number] = at
    return found


def tied_seats(seats, ties):
    """For each seat, at its index, a list that has for each other seat, at its index, whether the two are tied."""
    tied = [[False] * (seats + 1) for _ in range(seats + 1)]
    for one, two in ties:
        tied[one][two] = True
        tied[two][one] = True
    return tied


def people_called(calls, count):
    """For each call of a list, the two people that it names."""
    return [(call, next_call(call, count)) for call in calls]


def places_after(places, pairs, tied):
    """The places when these pairs of people have been called, one after the other."""
    places = list(places)
    for one, two in pairs:
        here = places[one]
        there = places[two]
        if not tied[here][there]:
            places[one] = there
            places[two] = here
    return places
