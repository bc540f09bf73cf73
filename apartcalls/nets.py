"""Nets: seats, some pairs of which are tied."""

from apartcalls.checks import check_net


def parts(seats, ties):
    """The parts of a net, each the list of its seats, ascending, in the order of their least seats."""
    check_net(seats, ties)
    return parts_of(seats, ties)


def is_wood(seats, ties):
    """Whether a net has no ring."""
    check_net(seats, ties)
    return is_wood_of(seats, ties)


def is_row(seats, ties):
    """Whether a net is a tree in which no seat is tied to more than two others."""
    check_net(seats, ties)
    return is_row_of(seats, ties)


def parts_of(seats, ties):
    """The parts of a net that is checked already."""
    least = least_together(seats, ties)
    return [
        [seat for seat in range(1, seats + 1) if least[seat] == first]
        for first in range(1, seats + 1)
        if least[first] == first
    ]


def is_wood_of(seats, ties):
    """Whether a net that is checked already has no ring."""
    # Put in one after the other, each tie makes one part of two, except those that close a ring.
    return len(parts_of(seats, ties)) == seats - len(ties)


def is_row_of(seats, ties):
    """Whether a net that is checked already is a row."""
    if len(ties) != seats - 1 or not is_wood_of(seats, ties):
        return False
    ends = [seat for tie in ties for seat in tie]
    return all([ends.count(seat) <= 2 for seat in range(1, seats + 1)])


def least_together(seats, ties):
    """For each seat, at its index, the least seat of its part."""
    least = list(range(seats + 1))
    for one, two in ties:
        low, high = sorted([least[one], least[two]])
        if low != high:
            least = [low if seat == high else seat for seat in least]
    return least
