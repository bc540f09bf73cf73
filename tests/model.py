"""What the document says, in its words and in another way than the program goes, for the tests to compare with."""

from itertools import combinations, permutations
from math import comb, factorial, gcd, lcm


def next_to(call, count):
    return 1 if call == count else call + 1


def ahead_of(call, count):
    return count if call == 1 else call - 1


def breaks_by_words(order):
    count = len(order)
    return [call for call in range(1, count + 1) if order.index(call) > order.index(next_to(call, count))]


def orders(count):
    return [list(order) for order in permutations(range(1, count + 1))]


def standings(seats):
    return [list(standing) for standing in permutations(range(1, seats + 1))]


def orders_by_breaks(count):
    """All orders of so many calls, ascending, by their breaks."""
    found = {}
    for order in orders(count):
        found.setdefault(tuple(breaks_by_words(order)), []).append(order)
    return found


def all_broken(count):
    for many in range(1, count):
        for broken in combinations(range(1, count + 1), many):
            yield list(broken)


def order_with(count, broken):
    """An order with just these breaks: the breaks, each ahead of the calls that it is behind of, put in one by one."""
    order = []
    waiting = list(range(1, count + 1))
    while waiting:
        for call in waiting[::-1]:
            later = next_to(call, count) if call in broken else None
            before = ahead_of(call, count) if ahead_of(call, count) not in broken else None
            if not {later, before} & set(waiting):
                order.append(call)
                waiting.remove(call)
                break
    assert breaks_by_words(order) == sorted(broken)
    return order


def row_of(seats):
    return [list(pair) for pair in zip(seats, seats[1:])]


def full(seats):
    return [list(pair) for pair in combinations(range(1, seats + 1), 2)]


def nets(seats):
    """The ties of all nets of so many seats."""
    pairs = full(seats)
    for many in range(len(pairs) + 1):
        for some in combinations(pairs, many):
            yield [list(pair) for pair in some]


def behind(ties, standing, calls):
    """The standing behind calls, and at how many of them people changed seats."""
    standing = list(standing)
    tied = {frozenset(tie) for tie in ties}
    changes = 0
    for call in calls:
        one = standing.index(call)
        two = standing.index(next_to(call, len(standing)))
        if frozenset([one + 1, two + 1]) not in tied:
            standing[one], standing[two] = standing[two], standing[one]
            changes += 1
    return standing, changes


def round_everywhere(seats, ties, order):
    """For each standing, what a round comes to: the calls made one after the other, each on all standings at once."""
    tied = {frozenset(tie) for tie in ties}
    one_call = {}
    everything = [tuple(standing) for standing in standings(seats)]
    for call in order:
        for standing in everything:
            a, b = call, next_to(call, seats)
            if frozenset([standing.index(a) + 1, standing.index(b) + 1]) in tied:
                one_call[call, standing] = standing
            else:
                one_call[call, standing] = tuple({a: b, b: a}.get(person, person) for person in standing)
    found = {standing: standing for standing in everything}
    for call in order:
        found = {first: one_call[call, now] for first, now in found.items()}
    return found


def backs_everywhere(seats, ties, order):
    """For each standing, after how many rounds it is back first: all go on side by side until each has been back."""
    one_round = round_everywhere(seats, ties, order)
    now = dict(one_round)
    found = {}
    rounds = 1
    while len(found) < len(now):
        for first, then in now.items():
            if first == then and first not in found:
                found[first] = rounds
        now = {first: one_round[then] for first, then in now.items()}
        rounds += 1
    return found


def counted(backs):
    """The backs of all standings, as `backs_counted` tells them."""
    rounds = list(backs.values())
    return [(many, rounds.count(many)) for many in sorted(set(rounds))]


def all_together(backs):
    return lcm(*backs.values())


def turned(order, call):
    """An order turned on by a call that is due: first, or last, in it or in an order that is alike to it; else None."""
    count = len(order)
    places = [order.index(other) for other in (ahead_of(call, count), next_to(call, count))]
    others = [other for other in order if other != call]
    # Calls may be changed with those that name four people, so a call can be put ahead of all but its two neighbours.
    if order.index(call) < min(places):
        return others + [call]
    if order.index(call) > max(places):
        return [call] + others
    return None


def some_order(count, chance):
    order = list(range(1, count + 1))
    chance.shuffle(order)
    return order


def some_row(seats, chance):
    """The ties of some row, in any order and either way about."""
    ties = [chance.sample(tie, 2) for tie in row_of(some_order(seats, chance))]
    chance.shuffle(ties)
    return ties


def some_wood(seats, parts, chance):
    """The ties of some wood of so many parts."""
    row = some_order(seats, chance)
    ties = [[row[at], chance.choice(row[:at])] for at in range(1, seats)]
    return chance.sample(ties, seats - parts)


def some_net(seats, chance):
    pairs = full(seats)
    return chance.sample(pairs, chance.randint(0, len(pairs)))


def sizes_by_seat(seats, ties):
    """For each seat the number of seats that one can come to from it, itself too."""
    found = {}
    for seat in range(1, seats + 1):
        reached, waiting = {seat}, [seat]
        while waiting:
            here = waiting.pop()
            for one, two in ties:
                for there in {one: [two], two: [one]}.get(here, []):
                    if there not in reached:
                        reached.add(there)
                        waiting.append(there)
        found[seat] = len(reached)
    return found


def back_in_wood(ties, standing, order):
    """After how many rounds a standing is back first, in an order with one break or one call that is none: [11]."""
    seats = len(standing)
    broken = breaks_by_words(order)
    if len(broken) == 1:
        call = broken[0]
    else:
        call, = set(order) - set(broken)
    size = sizes_by_seat(seats, ties)[standing.index(next_to(call, seats)) + 1]
    return (seats - 1) * size // gcd(size, seats)


def back_in_row(seats, broken):
    """For each common divisor of the number of breaks and of seats: rounds, and how many standings are back: [12]."""
    return {
        broken * (seats - broken) // divisor:
            seats * factorial(broken - 1) * factorial(seats - broken)
            * comb(seats // divisor - 1, broken // divisor - 1)
        for divisor in range(1, seats)
        if broken % divisor == 0 and seats % divisor == 0
    }
