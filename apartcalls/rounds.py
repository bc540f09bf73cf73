"""Where all sit behind calls, and behind any number of rounds."""

from apartcalls.checks import check_calls, check_many, check_net, check_order_of, check_standing
from apartcalls.moves import people_called, places_after, places_of, standing_of, tied_seats


def called(seats, ties, standing, calls):
    """The standing behind a list of calls, made one after the other."""
    check_net(seats, ties)
    check_standing(standing, seats)
    check_calls(calls, seats)
    return standing_of(places_after(places_of(standing), people_called(calls, seats), tied_seats(seats, ties)))


def after_rounds(seats, ties, standing, order, many=1):
    """The standing behind so many rounds in an order; a number below 0 means so many rounds backwards."""
    check_net(seats, ties)
    check_standing(standing, seats)
    check_order_of(order, seats)
    check_many(many)
    calls = order if many >= 0 else order[::-1]
    pairs = people_called(calls, seats)
    return standing_of(places_after_rounds(places_of(standing), pairs, tied_seats(seats, ties), abs(many)))


def places_after_rounds(start, pairs, tied, many):
    """The places when so many rounds have been made, in each of which these pairs of people are called."""
    places = start
    left = many
    made = 0
    while left > 0:
        places = places_after(places, pairs, tied)
        left -= 1
        made += 1
        if places == start:
            # Now they come back again and again, so only the rounds behind the last time make a difference.
            left %= made
    return places
