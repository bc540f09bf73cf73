"""Nets: seats, some pairs of which are tied."""

from apartcalls.checks import check_count, check_ties


def parts(seats, ties):
    """The parts of a net, each the list of its seats, ascending, in the order of their least seats."""
    check_count(seats)
    check_ties(ties, seats)
    least = least_together(seats, ties)
    return [
        [seat for seat in range(1, seats + 1) if least[seat] == first]
        for first in range(1, seats + 1)
        if least[first] == first
    ]


def is_wood(seats, ties):
    """Whether a net has no ring."""
    # Put in one after the other, each tie makes one part of two, except those that close a ring.
    return len(parts(seats, ties)) == seats - len(ties)


def is_row(seats, ties):
    """Whether a net is a tree in which no seat is tied to more than two others."""
    if len(parts(seats, ties)) != 1 or len(ties) != seats - 1:
        return False
    ends = [seat for tie in ties for seat in tie]
    return all([ends.count(seat) <= 2 for seat in range(1, seats + 1)])


def least_together(seats, ties):
    """For each seat, at its index, the least seat of its part."""
    least = list(range(seats + 1))
    for one, two in ties:
        low, high = sorted([least[one], least[two]])
        least = [low if seat == high else seat for seat in least]
    return least
