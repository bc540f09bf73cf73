"""What several tests use: wrong things of every kind, and what a call raises."""

import copy


class Touchy:
    """A thing that bears no question but that for its kind."""

    def refuse(self, *told):
        raise AssertionError("a thing of an unknown kind was asked for more than its kind")

    __eq__ = __ne__ = __lt__ = __le__ = __gt__ = __ge__ = refuse
    __hash__ = __len__ = __iter__ = __getitem__ = __contains__ = refuse
    __bool__ = __int__ = __index__ = __float__ = __str__ = __repr__ = refuse


def no_numbers():
    """Things that are no whole numbers, of every kind."""
    return [
        None, True, False, "", "3", "three", b"", b"3", bytearray(b"3"), 3.0, 4.5, float("nan"), float("inf"), 3j,
        [], [3], [[1, 2]], (), (3,), {}, {3: 3}, set(), {3}, frozenset([3]), range(3), iter([3]), (k for k in [3]),
        int, len, lambda: 3, object(), Ellipsis, NotImplemented, ValueError(3), Touchy(), Touchy,
    ]


def no_lists():
    """Things that are no lists, of every kind."""
    wrong = [thing for thing in no_numbers() if not isinstance(thing, list)]
    return wrong + [0, 1, 3, -1, 10 ** 60, (1, 2, 3), ([1, 2],), "123", b"\1\2\3", {1: 1, 2: 2, 3: 3}, {1, 2, 3},
                    range(1, 4), iter([1, 2, 3]), (k for k in [1, 2, 3])]


def no_counts():
    """Things that are no whole numbers from 3 to 40."""
    return no_numbers() + [0, 1, 2, -1, -3, -40, 41, 42, 100, 10 ** 60, -10 ** 60, 10 ** 3999, -10 ** 3999]


def no_members(most):
    """Things that are no whole numbers from 1 to `most`."""
    return no_numbers() + [0, -1, -most, most + 1, most + 2, 10 ** 60, -10 ** 60, 10 ** 3999, -10 ** 3999]


def raised(function, *told, **named):
    """The error that a call raises."""
    try:
        function(*told, **named)
    except Exception as error:
        return error
    raise AssertionError("no error was raised")


def lists_in(thing):
    """All list objects in a result, as often as they occur."""
    found = [thing] if isinstance(thing, list) else []
    if isinstance(thing, (list, tuple)):
        for one in thing:
            found += lists_in(one)
    return found


def check_result(case, function, *told):
    """A result is new, each of its lists occurs once, later changes to it have no effect, and nothing passed is changed."""
    kept = copy.deepcopy(told)
    inner = [list(map(id, one)) for one in lists_in(list(told))]
    first = function(*told)
    wanted = copy.deepcopy(first)
    own = lists_in(first)
    passed = [id(one) for one in lists_in(list(told))]
    case.assertEqual(len({id(one) for one in own}), len(own), "a list object occurs twice")
    case.assertFalse({id(one) for one in own} & set(passed), "a list that was passed is returned")
    for one in own:
        one[:] = ["changed"]
    second = function(*told)
    case.assertEqual(second, wanted)
    case.assertIs(type(second), type(wanted))
    case.assertFalse({id(one) for one in own} & {id(one) for one in lists_in(second)}, "a list is returned again")
    case.assertEqual(told, kept)
    case.assertEqual([list(map(id, one)) for one in lists_in(list(told))], inner)
    return wanted


def no_standings(count):
    """Pairs of a thing that is no list of the numbers 1 to `count`, each once, and the index that is to be told."""
    up = list(range(1, count + 1))
    wrong = [(thing, None) for thing in no_lists()]
    wrong += [(list(range(1, many + 1)), None) for many in (0, 1, count - 1, count + 1, 100)]
    wrong += [([None] * many, None) for many in (1, count - 1, count + 1)]
    for at in (0, 1, count - 1):
        wrong += [(up[:at] + [thing] + up[at + 1:], at) for thing in no_members(count)]
    wrong += [([1, 1] + up[2:], 1), (up[:-1] + [1], count - 1), ([count] + up[1:], count - 1), ([2] * count, 1)]
    # Several wrong things in one list: the first one is told, whatever is wrong with it.
    wrong += [
        ([1, 1, None] + up[3:], 1), ([1, None, 1] + up[3:], 1), ([2, 2, Touchy()] + up[3:], 1),
        ([True, 1, 1] + up[3:], 0), ([1, True, 1] + up[3:], 1), ([0, 0, 0] + up[3:], 0),
        ([2, count + 1, 2] + up[3:], 1), ([3, 2, 3] + [Touchy()] * (count - 3), 2),
    ]
    within = up[:-1]
    within.append(within)
    return wrong + [(within, count - 1)]


def no_nets():
    """Pairs of a thing that is no list of ties of a net of 4 seats, and the index that is to be told."""
    wrong = [(thing, None) for thing in no_lists()]
    wrong += [([[1, 2], thing, [3, 4]], 1) for thing in no_lists()]
    wrong += [([[2, 3], [thing, 1]], 1) for thing in no_members(4)]
    wrong += [([[1, 3], tie], 1) for tie in ([], [1], [1, 2, 3], [1, 1], [3, 1], [1, 3], [[1, 2]])]
    return wrong + [([[1, 2], [2, 1], None], 1), ([[1, 2], None, [2, 1]], 1), ([[4, 3], [3, 4], Touchy()], 1)]


def check_index(case, error, kind, index):
    """An error is of this kind and tells this index."""
    case.assertIs(error.__class__, kind)
    case.assertIs(error.index.__class__, index.__class__)
    case.assertEqual(error.index, index)


def check_number(case, error, kind, thing):
    """An error is of this kind and tells this thing itself."""
    case.assertIs(error.__class__, kind)
    case.assertIs(error.number, thing)
