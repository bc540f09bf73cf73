"""Orders that are turned on to other ones.

Turned on by its first call, an order has this call as a break in place of the one ahead of it round the clock; by its
last call, the other way about. So the breaks are moved round the clock, one step at a time, none onto another one, and
each call stands for the step between the call ahead of it and itself.
"""

from apartcalls.checks import check_order, check_order_of
from apartcalls.orders import breaks_of


def fewest_turns(order, other):
    """The least number of times that an order must be turned on until it is alike to another one, or None."""
    check_order(order)
    check_order_of(other, len(order))
    steps = steps_needed(order, other)
    return None if steps is None else sum([abs(times) for times in steps])


def turns(order, other):
    """A list of as few calls as can be by which an order is turned on to another one; None if there is none."""
    check_order(order)
    check_order_of(other, len(order))
    steps = steps_needed(order, other)
    return None if steps is None else calls_when_due(falls_of(order), steps)


def falls_of(order):
    """For each call, from 1 on, whether it is a break of an order."""
    broken = breaks_of(order)
    return [call in broken for call in range(1, len(order) + 1)]


def steps_needed(order, other):
    """For each call, from 1 on, how often a break must go on over it, or back, if below 0; None if none will do."""
    falls = falls_of(order)
    wanted = falls_of(other)
    if sum(falls) != sum(wanted):
        return None
    steps = [0]
    for fall, wish in list(zip(falls, wanted))[:-1]:
        # What comes to a call or is there, and is not to stay there, must go on.
        steps.append(steps[-1] + int(fall) - int(wish))
    # As many more or fewer may go over all calls, all round: these numbers are least together if the middle one is 0.
    middle = sorted(steps)[len(steps) // 2]
    return [times - middle for times in steps]


def calls_when_due(falls, steps):
    """The calls over which breaks must go, each as often as needed, in an order in which none is in the way."""
    falls = list(falls)
    left = list(steps)
    made = []
    # While steps are left, not all of them can be barred: a break in the way has to go the same way itself, and at
    # least one call is no break.
    while any([times != 0 for times in left]):
        for at, times in enumerate(steps):
            if is_due(left[at], falls[at - 1], falls[at]):
                falls[at - 1], falls[at] = falls[at], falls[at - 1]
                left[at] += -1 if times > 0 else 1
                made.append(at + 1)
    return made


def is_due(left, ahead, here):
    """Whether a step that is left over a call can be made, by whether the call ahead and the call itself are breaks."""
    if left > 0:
        return ahead and not here
    return left < 0 and here and not ahead
