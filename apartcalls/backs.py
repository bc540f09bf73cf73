"""After how many rounds standings are back."""

from itertools import permutations
from math import comb, factorial, gcd, lcm

from apartcalls.checks import check_many, check_net, check_order_of, check_standing
from apartcalls.moves import people_called, places_after, places_of, tied_seats
from apartcalls.nets import is_row_of, is_wood_of, parts_of
from apartcalls.orders import breaks_of


def back_after(seats, ties, standing, order):
    """The number of rounds after which a standing is back first."""
    check_net(seats, ties)
    check_standing(standing, seats)
    check_order_of(order, seats)
    pairs = people_called(order, seats)
    tied = tied_seats(seats, ties)
    start = places_of(standing)
    places = places_after(start, pairs, tied)
    rounds = 1
    while places != start:
        places = places_after(places, pairs, tied)
        rounds += 1
    return rounds


def backs_counted(seats, ties, order):
    """Tuples of a number of rounds and of how many standings are back first after it, ascending."""
    check_net(seats, ties)
    check_order_of(order, seats)
    return first_backs(seats, ties, order)


def all_back(seats, ties, order):
    """The least number of rounds, from 1 on, after which all standings are back."""
    check_net(seats, ties)
    check_order_of(order, seats)
    together = 1
    for rounds, _ in first_backs(seats, ties, order):
        together = lcm(together, rounds)
    return together


def fixed_after(seats, ties, order, many):
    """How many standings are back after so many rounds."""
    check_net(seats, ties)
    check_order_of(order, seats)
    check_many(many)
    return sum([standings for rounds, standings in first_backs(seats, ties, order) if many % rounds == 0])


def first_backs(seats, ties, order):
    """As `backs_counted`, of a net and an order that are checked already."""
    broken = len(breaks_of(order))
    others = seats - broken
    if len(ties) == 0:
        return [(lcm(broken, others), factorial(seats))]
    if len(ties) == comb(seats, 2):
        return [(1, factorial(seats))]
    if is_row_of(seats, ties):
        return first_backs_in_row(seats, broken)
    if 1 in (broken, others) and is_wood_of(seats, ties):
        return first_backs_in_wood(seats, ties)
    return first_backs_by_walk(seats, ties, order)


def first_backs_in_row(seats, broken):
    """As `first_backs`, in a row."""
    others = seats - broken
    common = gcd(broken, seats)
    found = {}
    for divisor in [number for number in range(common, 0, -1) if common % number == 0]:
        ways = comb(seats // divisor - 1, broken // divisor - 1)
        back = seats * factorial(broken - 1) * factorial(others) * ways
        # Those that were back earlier, after a part of these rounds, are among them.
        earlier = sum([found[greater] for greater in found if greater % divisor == 0])
        found[divisor] = back - earlier
    return [(broken * others // divisor, standings) for divisor, standings in found.items()]


def first_backs_in_wood(seats, ties):
    """As `first_backs`, in a wood, in an order with one break or with one call that is no break."""
    found = {}
    for part in parts_of(seats, ties):
        size = len(part)
        rounds = (seats - 1) * size // gcd(size, seats)
        # The one person on whom it depends sits on one of these seats, the others sit anyhow.
        found[rounds] = found.get(rounds, 0) + size * factorial(seats - 1)
    return sorted(found.items())


def first_backs_by_walk(seats, ties, order):
    """As `first_backs`, on any net, by going through all standings."""
    pairs = people_called(order, seats)
    tied = tied_seats(seats, ties)
    seen = set()
    found = {}
    for people in permutations(range(1, seats + 1)):
        places = (0, *people)
        rounds = 0
        while places not in seen:
            seen.add(places)
            places = tuple(places_after(places, pairs, tied))
            rounds += 1
        if rounds > 0:
            # All standings that were met on the way are back after equally many rounds.
            found[rounds] = found.get(rounds, 0) + rounds
    return sorted(found.items())
