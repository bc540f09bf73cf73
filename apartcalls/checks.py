"""The checks of what is handed in: each ends quietly, or raises the error that is due."""

from apartcalls.errors import (
    InvalidBreaks, InvalidCalls, InvalidNumber, InvalidOrder, InvalidStanding, InvalidTies, UnknownCall,
)

LEAST_COUNT = 3
MOST_COUNT = 40


def is_whole(thing):
    """Whether a thing is a whole number."""
    # To Python True is the int 1; here it is no whole number.
    return isinstance(thing, int) and not isinstance(thing, bool)


def is_from_one(thing, most):
    """Whether a thing is a whole number from 1 to `most`."""
    # Asked for each thing of each list, so it does not go by way of `is_whole`.
    return isinstance(thing, int) and not isinstance(thing, bool) and 1 <= thing <= most


def first_wrong(things, most):
    """The index of the first thing that is no whole number from 1 to `most`, or stands ahead already; else None."""
    seen = set()
    for at, thing in enumerate(things):
        # Only whole numbers reach the set: other things might not be fit for it, or equal a number.
        if not is_from_one(thing, most) or thing in seen:
            return at
        seen.add(thing)
    return None


def check_count(number):
    """A number of seats, or of calls."""
    if not is_from_one(number, MOST_COUNT) or number < LEAST_COUNT:
        raise InvalidNumber(number)


def is_tie(thing, seats):
    """Whether a thing is a list of two different seats."""
    return isinstance(thing, list) and len(thing) == 2 and first_wrong(thing, seats) is None


def check_ties(ties, seats):
    """The ties of a net; `seats` is checked already."""
    if not isinstance(ties, list):
        raise InvalidTies(None)
    tied = set()
    for at, tie in enumerate(ties):
        if not is_tie(tie, seats):
            raise InvalidTies(at)
        pair = tuple(sorted(tie))
        if pair in tied:
            raise InvalidTies(at)
        tied.add(pair)


def check_net(seats, ties):
    """The seats and the ties of a net."""
    check_count(seats)
    check_ties(ties, seats)


def check_standing(standing, seats):
    """A standing on so many seats; `seats` is checked already."""
    if not isinstance(standing, list) or len(standing) != seats:
        raise InvalidStanding(None)
    wrong = first_wrong(standing, seats)
    if wrong is not None:
        raise InvalidStanding(wrong)


def check_order_of(order, count):
    """An order of so many calls; `count` is checked already."""
    if not isinstance(order, list) or len(order) != count:
        raise InvalidOrder(None)
    wrong = first_wrong(order, count)
    if wrong is not None:
        raise InvalidOrder(wrong)


def check_order(order):
    """An order, where nothing else tells of how many calls."""
    if not isinstance(order, list) or not LEAST_COUNT <= len(order) <= MOST_COUNT:
        raise InvalidOrder(None)
    check_order_of(order, len(order))


def check_broken(broken, count):
    """The breaks of an order of so many calls; `count` is checked already."""
    if not isinstance(broken, list) or not 1 <= len(broken) < count:
        raise InvalidBreaks(None)
    wrong = first_wrong(broken, count)
    if wrong is not None:
        raise InvalidBreaks(wrong)


def check_call(number, count):
    """One of so many calls; `count` is checked already."""
    if not is_from_one(number, count):
        raise UnknownCall(number)


def check_calls(calls, count):
    """A list of some of so many calls; `count` is checked already."""
    if not isinstance(calls, list):
        raise InvalidCalls(None)
    for at, call in enumerate(calls):
        if not is_from_one(call, count):
            raise InvalidCalls(at)


def check_many(many):
    """A number of rounds, forwards or backwards."""
    if not is_whole(many):
        raise InvalidNumber(many)
