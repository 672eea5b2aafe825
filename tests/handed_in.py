"""Checks that hold of every call, whatever it answers, and what several tests reckon with."""

import itertools
import sys
from fractions import Fraction

LOW = -9223372036854775808
HIGH = 9223372036854775807
NO_NUMBERS_OF_POINTS = (0, -1, 4097, -2147483648, 2147483647, -2, -4096, 4098, 8192, 65537, 2147483646)


def refuse(*args, **kwargs):
    raise AssertionError("what is handed in was changed")


class Untouchable(list):
    """A list that no call may change, not for a while either."""

    __setitem__ = __delitem__ = __iadd__ = __imul__ = refuse
    append = extend = insert = pop = remove = clear = sort = reverse = refuse


def check_lists_call(case, call, lists, expected):
    """The call answers the expected list of ints, anew each time, and leaves the lists it takes alone."""
    handed = [list(numbers) for numbers in lists]
    answer = call(*handed)
    case.assertIs(type(answer), list)
    case.assertTrue(all(type(number) is int for number in answer), answer)
    case.assertEqual(answer, expected, lists)
    case.assertEqual(handed, [list(numbers) for numbers in lists])
    case.assertEqual(call(*[Untouchable(numbers) for numbers in lists]), expected, lists)
    answer.append(7)
    case.assertEqual(call(*handed), expected, lists)


def check_call(case, call, numbers, expected):
    """The same of a call that takes one list."""
    check_lists_call(case, call, [numbers], expected)


def flat(points):
    """The points' numbers, one point behind another."""
    return [number for point in points for number in point]


def check_points_call(case, call, points, expected):
    """The same of a call that takes how many points there are, and the points."""
    check_call(case, lambda numbers: call(len(points), numbers), flat(points), expected)


def check_refusals(case, call):
    """The call refuses every number of points that isn't from 1 to 4096, no points being handed in."""
    for n in NO_NUMBERS_OF_POINTS:
        check_call(case, lambda numbers: call(n, numbers), [], [-2])


def other_orders(points):
    """The points as they are, backwards, and in orders that jump to and fro."""
    size = len(points)
    yield list(points)
    yield list(reversed(points))
    yield points[size // 2:] + points[:size // 2]
    yield points[1::2] + points[0::2]
    yield sorted(points, key=lambda point: (point[0] * 31 + point[1] * 17) % 101)
    yield sorted(points, key=lambda point: (point[1], -point[0]))


def views(points):
    """The points turned and mirrored in all eight ways, the whole range of coordinates staying itself."""
    for mirrored in (points, [(-1 - x, y) for x, y in points]):
        for turned in (mirrored, [(x, -1 - y) for x, y in mirrored]):
            yield turned
            yield [(y, x) for x, y in turned]


def scattered(size, width, seed):
    """So many different points of a square, in an order that depends on the seed."""
    points = list(itertools.product(range(width), repeat=2))
    chosen = []
    for step in range(size):
        seed = (seed * 1103515245 + 12345) % (1 << 31)
        chosen.append(points.pop((seed >> 8) % len(points)))
    return chosen


def with_few_calls_left(call):
    """What the call answers where only some calls within one another are left to it."""
    depth = 1
    frame = sys._getframe()
    while frame.f_back is not None:
        depth += 1
        frame = frame.f_back
    limit = sys.getrecursionlimit()
    sys.setrecursionlimit(depth + 40)
    try:
        return call()
    finally:
        sys.setrecursionlimit(limit)


def narrow(low, high, start, step, least, most):
    """The t from low to high with least <= start + t * step <= most, as their two ends, or None."""
    if step == 0:
        return (low, high) if least <= start <= most else None
    ends = sorted((Fraction(least - start, step), Fraction(most - start, step)))
    low = max(low, ends[0])
    high = min(high, ends[1])
    return (low, high) if low <= high else None


def meet_by_fractions(a, b, c, d):
    """What meet must answer, by the t for which a + t (b - a) is in cd."""
    if a == b:
        if c != d:
            return meet_by_fractions(c, d, a, b)
        return 2 if a == c else 0
    ux, uy = b[0] - a[0], b[1] - a[1]
    vx, vy = d[0] - c[0], d[1] - c[1]
    wx, wy = a[0] - c[0], a[1] - c[1]
    bounds = [(wx * vy - wy * vx, ux * vy - uy * vx, 0, 0),
              (wx * vx + wy * vy, ux * vx + uy * vy, 0, vx * vx + vy * vy)]
    if c == d:
        bounds = [(wx, ux, 0, 0), (wy, uy, 0, 0)]
    ends = (Fraction(0), Fraction(1))
    for bound in bounds:
        ends = narrow(*ends, *bound)
        if ends is None:
            return 0
    if ends[0] < ends[1]:
        return 3
    common = (a[0] + ends[0] * ux, a[1] + ends[0] * uy)
    return 2 if common in (a, b, c, d) else 1
