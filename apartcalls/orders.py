"""Orders of calls, and the breaks that tell which of them are alike."""

from heapq import heappop, heappush
from math import comb

from apartcalls.checks import check_broken, check_count, check_order, check_order_of


def breaks(order):
    """The breaks of an order, ascending."""
    check_order(order)
    return breaks_of(order)


def least_order(count, broken):
    """The least order of so many calls with just these breaks."""
    check_count(count)
    check_broken(broken, count)
    behind = calls_behind(count, broken)
    # Of the two neighbours of a call, those that do not stand behind it stand ahead of it.
    waits = {call: 2 - len(behind[call]) for call in behind}
    # Ascending, the free calls are a heap from the first.
    free = [call for call in behind if waits[call] == 0]
    order = []
    while len(order) < count:
        # Any call that is free now can be made now, so the least one makes the least list.
        call = heappop(free)
        order.append(call)
        for other in behind[call]:
            waits[other] -= 1
            if waits[other] == 0:
                heappush(free, other)
    return order


def are_alike(order, other):
    """Whether two orders have the same breaks."""
    check_order(order)
    check_order_of(other, len(order))
    return breaks_of(order) == breaks_of(other)


def count_alike(order):
    """The number of orders with the same breaks as an order, itself too."""
    check_order(order)
    count = len(order)
    broken = breaks_of(order)
    if 2 * len(broken) > count:
        # Read from the last call to the first one, alike orders have the other calls as breaks: they are as many, and
        # sooner counted.
        broken = breaks_of(order[::-1])
    found = 0
    for at in reversed(range(len(broken))):
        # The clock is cut open behind a break. The lines of all calls with just the later breaks are the orders in
        # which it is a break too, and those in which it is none: the latter are those that were found just ahead.
        found = count_lines(broken[at:] + [broken[at] + count]) - found
    return found


def order_counts(count):
    """The numbers of orders of so many calls with 1, 2 and so on breaks."""
    check_count(count)
    # Any call may be the first one. It is no break then, but the call that it is next to is one. The clock is cut open
    # there, and the Eulerian numbers tell how many lines of the other calls have so many falls.
    row = [1]
    for length in range(2, count):
        wide = [0, *row, 0]
        row = [(falls + 1) * wide[falls + 1] + (length - falls) * wide[falls] for falls in range(length)]
    return [count * ways for ways in row]


def next_call(call, count):
    """The call next to a call round the clock."""
    return call % count + 1


def breaks_of(order):
    """The breaks of an order that is checked already."""
    count = len(order)
    place = {call: at for at, call in enumerate(order)}
    return [call for call in range(1, count + 1) if place[call] > place[next_call(call, count)]]


def calls_behind(count, broken):
    """For each call, those of its neighbours that stand behind it."""
    behind = {call: [] for call in range(1, count + 1)}
    for call in range(1, count + 1):
        follower = next_call(call, count)
        if call in broken:
            behind[follower].append(call)
        else:
            behind[call].append(follower)
    return behind


def count_lines(ends):
    """The number of ways to place the calls behind the first end up to the last one, with just the others as breaks."""
    ways = [1]
    while len(ways) < len(ends):
        ways.append(count_longer_lines(ends[:len(ways) + 1], ways))
    return ways[-1]


def count_longer_lines(ends, ways):
    """As `count_lines`, by the ways that there are up to each end but the last one."""
    first = ends[0]
    last = ends[-1]
    lines = 0
    for end, shorter in zip(ends, ways):
        # The calls behind this end, none of them a break, are put in anyhow among those up to it: so it is a break, or
        # none, as in the lines that were counted just ahead.
        lines = comb(last - first, last - end) * shorter - lines
    return lines
