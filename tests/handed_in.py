"""Checks that hold of every call, whatever it answers."""

import sys

LOW = -9223372036854775808
HIGH = 9223372036854775807
NO_NUMBERS_OF_POINTS = (0, -1, 4097, -2147483648, 2147483647, -2, -4096, 4098, 8192, 65537, 2147483646)


def refuse(*args, **kwargs):
    raise AssertionError("what is handed in was changed")


class Untouchable(list):
    """A list that no call may change, not for a while either."""

    __setitem__ = __delitem__ = __iadd__ = __imul__ = refuse
    append = extend = insert = pop = remove = clear = sort = reverse = refuse


def check_call(case, call, numbers, expected):
    """The call answers the expected list of ints, anew each time, and leaves its input alone."""
    handed = list(numbers)
    answer = call(handed)
    case.assertIs(type(answer), list)
    case.assertTrue(all(type(number) is int for number in answer), answer)
    case.assertEqual(answer, expected, numbers)
    case.assertEqual(handed, list(numbers))
    case.assertEqual(call(Untouchable(numbers)), expected, numbers)
    answer.append(7)
    case.assertEqual(call(handed), expected, numbers)


def flat(points):
    """The points' numbers, one point behind another."""
    return [number for point in points for number in point]


def check_points_call(case, call, points, expected):
    """The same of a call that takes how many points there are, and the points."""
    check_call(case, lambda numbers: call(len(points), numbers), flat(points), expected)


def check_refusals(case, call):
    """The call refuses every number of points that isn't from 1 to 4096, no points being handed in."""
    for n in NO_NUMBERS_OF_POINTS:
        check_call(case, lambda numbers: call(n, numbers), [], [-2])


def other_orders(points):
    """The points as they are, backwards, and in orders that jump to and fro."""
    size = len(points)
    yield list(points)
    yield list(reversed(points))
    yield points[size // 2:] + points[:size // 2]
    yield points[1::2] + points[0::2]
    yield sorted(points, key=lambda point: (point[0] * 31 + point[1] * 17) % 101)
    yield sorted(points, key=lambda point: (point[1], -point[0]))


def with_few_calls_left(call):
    """What the call answers where only some calls within one another are left to it."""
    depth = 1
    frame = sys._getframe()
    while frame.f_back is not None:
        depth += 1
        frame = frame.f_back
    limit = sys.getrecursionlimit()
    sys.setrecursionlimit(depth + 40)
    try:
        return call()
    finally:
        sys.setrecursionlimit(limit)
