"""Orders of calls, and the breaks that tell which of them are alike."""

from apartcalls.checks import check_broken, check_count, check_order, check_order_of


def breaks(order):
    """The breaks of an order, ascending."""
    check_order(order)
    return breaks_of(order)


def least_order(count, broken):
    """The least order of so many calls with just these breaks."""
    check_count(count)
    check_broken(broken, count)
    ahead = calls_ahead(count, broken)
    order = []
    while len(order) < count:
        # Any call that is free now can be made now, so the least one makes the least list.
        order.append(least_free(order, ahead))
    return order


def are_alike(order, other):
    """Whether two orders have the same breaks."""
    check_order(order)
    check_order_of(other, len(order))
    return breaks_of(order) == breaks_of(other)


def count_alike(order):
    """The number of orders with the same breaks as an order, itself too."""
    check_order(order)
    broken = breaks_of(order)
    falls = [call in broken for call in range(1, len(order) + 1)]
    # Each alike order is counted by its first call, which stands ahead of both its neighbours in any case: so the
    # clock is cut open there, and the other calls are left in a line.
    return sum([
        count_lines((falls[at + 1:] + falls[:at])[:-1])
        for at, fall in enumerate(falls)
        if falls[at - 1] and not fall
    ])


def order_counts(count):
    """The numbers of orders of so many calls with 1, 2 and so on breaks."""
    check_count(count)
    # Any call may be the first one. It is no break then, but the call that it is next to is one. The clock is cut open
    # there, and the Eulerian numbers tell how many lines of the other calls have so many falls.
    row = [1]
    for length in range(2, count):
        wide = [0, *row, 0]
        row = [(falls + 1) * wide[falls + 1] + (length - falls) * wide[falls] for falls in range(length)]
    return [count * ways for ways in row]


def next_call(call, count):
    """The call next to a call round the clock."""
    return call % count + 1


def breaks_of(order):
    """The breaks of an order that is checked already."""
    count = len(order)
    place = {call: at for at, call in enumerate(order)}
    return [call for call in range(1, count + 1) if place[call] > place[next_call(call, count)]]


def calls_ahead(count, broken):
    """For each call, those of its neighbours that stand ahead of it."""
    ahead = {call: [] for call in range(1, count + 1)}
    for call in range(1, count + 1):
        follower = next_call(call, count)
        if call in broken:
            ahead[call].append(follower)
        else:
            ahead[follower].append(call)
    return ahead


def least_free(order, ahead):
    """The least call that is not in the order yet, while all that stand ahead of it are."""
    return min([call for call in ahead if call not in order and all([one in order for one in ahead[call]])])


def count_lines(falls):
    """The number of ways to place a line of calls, each one behind (fall) or ahead of the next one, as told."""
    # Of the calls so far, as many ways as stand at an index have the last one at that place among them.
    ways = [1]
    for fall in falls:
        ways = [sum(ways[place:]) if fall else sum(ways[:place]) for place in range(len(ways) + 1)]
    return sum(ways)
