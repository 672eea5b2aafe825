"""Promise 8: around answers the points in the order in which they're seen from o, counterclockwise from growing x."""

import functools
import itertools
import math
import time
import unittest

from exactplane.plane import around, nearest
from handed_in import (HIGH, LOW, NO_NUMBERS_OF_POINTS, check_lists_call, flat, other_orders, scattered,
                       with_few_calls_left)

# Seconds. A hundredth of one is enough.
LONGEST = 2
WIDTH = HIGH - LOW
CORNERS = [(LOW, LOW), (HIGH, LOW), (HIGH, HIGH), (LOW, HIGH)]
# Counterclockwise from growing x on.
COMPASS = [(1, 0), (2, 1), (1, 1), (1, 2), (0, 1), (-1, 2), (-1, 1), (-2, 1),
           (-1, 0), (-2, -1), (-1, -1), (-1, -2), (0, -1), (1, -2), (1, -1), (2, -1)]


def half(x, y):
    """0 from the direction of growing x on, 1 from that of falling x on."""
    return 0 if y > 0 or (y == 0 and x > 0) else 1


def compare(o, a, b):
    """Below 0 if a comes before b as they're seen from o, above 0 if behind it, 0 if they're equal."""
    (ax, ay), (bx, by) = (a[0] - o[0], a[1] - o[1]), (b[0] - o[0], b[1] - o[1])
    if (ax, ay) == (0, 0) or (bx, by) == (0, 0):
        return int((ax, ay) != (0, 0)) - int((bx, by) != (0, 0))
    if half(ax, ay) != half(bx, by):
        return half(ax, ay) - half(bx, by)
    # Within a half, the one that has the other to its left comes before it.
    turn = ax * by - ay * bx
    return -turn if turn != 0 else ax * ax + ay * ay - bx * bx - by * by


def by_turns(o, points):
    """The points as around must answer them, by comparing every two that the sorting asks for."""
    return sorted(points, key=functools.cmp_to_key(lambda a, b: compare(o, a, b)))


def just_left_of(x, y):
    """The farthest (a, b), up to the width of the range, that is to the left of (x, y) by a turn of 1."""
    b = pow(x, -1, y)
    a = (x * b - 1) // y
    times = min((WIDTH - a) // x, (WIDTH - b) // y)
    return (a + times * x, b + times * y)


def in_all_quarters(points):
    """Points of the first quarter in each of the four, with the o from which they're seen there."""
    yield (LOW, LOW), [(LOW + x, LOW + y) for x, y in points]
    yield (HIGH, LOW), [(HIGH - y, LOW + x) for x, y in points]
    yield (HIGH, HIGH), [(HIGH - x, HIGH - y) for x, y in points]
    yield (LOW, HIGH), [(LOW + y, HIGH - x) for x, y in points]


class AroundTest(unittest.TestCase):
    def check_call(self, o, points, expected):
        numbers = [flat(points), list(o)]
        check_lists_call(self, lambda p, at: around(len(points), at, p), numbers, [0] + flat(expected))

    def check(self, o, expected):
        """In whatever order the points are handed in."""
        self.assertEqual(by_turns(o, expected), expected)
        for points in other_orders(expected):
            self.check_call(o, points, expected)

    def check_by_turns(self, o, points):
        self.assertEqual(around(len(points), list(o), flat(points)), [0] + flat(by_turns(o, points)), (o, points))

    def check_order(self, expected):
        """Of points of the first quarter, in all four, forwards and backwards."""
        for o, points in in_all_quarters(expected):
            self.assertEqual(around(len(points), list(o), flat(points)), [0] + flat(points))
            self.assertEqual(around(len(points), list(o), flat(points[::-1])), [0] + flat(points))

    def check_most(self, o, points, expected):
        """The same of 4096 points, each answer soon enough."""
        self.assertEqual(len(points), 4096)
        for order in other_orders(points):
            numbers = flat(order)
            begun = time.process_time()
            answer = around(4096, list(o), numbers)
            self.assertLess(time.process_time() - begun, LONGEST)
            self.assertEqual(answer, [0] + flat(expected))
        self.check_call(o, points, expected)

    def test_refusals(self):
        for n in NO_NUMBERS_OF_POINTS:
            for o in ([0, 0], [3, -4], [LOW, HIGH]):
                check_lists_call(self, lambda p, at: around(n, at, p), [[], o], [-2])

    def test_plain_calls(self):
        self.assertEqual(around(1, [0, 0], [5, 6]), [0, 5, 6])
        self.assertEqual(around(4, [0, 0], [0, -1, -1, 0, 0, 1, 1, 0]), [0, 1, 0, 0, 1, -1, 0, 0, -1])
        self.assertEqual(around(3, [1, 1], [1, 0, 0, 1, 9, 1]), [0, 9, 1, 0, 1, 1, 0])
        self.assertEqual(around(3, [2, 3], [4, 3, 2, 3, 3, 3]), [0, 2, 3, 3, 3, 4, 3])

    def test_one_point(self):
        for o in ((0, 0), (3, -4), (-1, -1), *CORNERS):
            self.check(o, [o])
            for point in ((0, 0), (3, -4), (-3, 4), (3, 0), (0, -4), *CORNERS):
                self.check(o, [point])

    def test_points_equal_to_o(self):
        for o in ((0, 0), (3, -4), *CORNERS):
            self.check(o, [o] * 2)
            self.check(o, [o] * 5)
        for x, y in COMPASS:
            self.check((3, -4), [(3, -4), (3 + x, -4 + y)])
            self.check((3, -4), [(3, -4), (3, -4), (3, -4), (3 + x, -4 + y), (3 + x, -4 + y)])
        self.check((0, 0), [(0, 0), (0, 0)] + COMPASS)

    def test_o_among_points_beside_the_origin(self):
        # The origin is a point like any other, and isn't first unless it's o.
        self.check((5, 5), [(5, 5), (6, 5), (5, 6), (0, 5), (0, 0), (5, 0)])
        self.check((-5, 5), [(-5, 5), (0, 5), (-5, 6), (-6, 5), (-5, 0), (0, 0)])

    def test_directions_of_growing_and_falling_x_and_y(self):
        for far in (1, 2, 7, 1 << 31, 1 << 53, 1 << 62):
            tips = [(far, 0), (0, far), (-far, 0), (0, -far)]
            for order in itertools.permutations(tips):
                self.check_call((0, 0), list(order), tips)
            for x, y in ((3, -4), (-100, 77)):
                self.check((x, y), [(x + a, y + b) for a, b in tips])

    def test_four_quarters(self):
        for x, y in ((1, 1), (5, 2), (2, 5), (100, 1), (1, 100)):
            points = [(x, y), (-y, x), (-x, -y), (y, -x)]
            for order in itertools.permutations(points):
                self.check_call((0, 0), list(order), points)
            self.check((-3, 4), [(a - 3, b + 4) for a, b in points])

    def test_the_whole_compass(self):
        for size in (1, 2, 10, 1 << 60):
            for x, y in ((0, 0), (3, -4), (-5, -5), (1 << 61, -1 << 61)):
                self.check((x, y), [(x + size * a, y + size * b) for a, b in COMPASS])
        # Farther points don't come later for being farther.
        for sizes in ((1, 9, 2, 7, 30, 1, 4, 5), (9, 1, 8, 2, 1, 50, 3, 3)):
            self.check((1, 2), [(1 + size * a, 2 + size * b) for size, (a, b) in zip(sizes * 2, COMPASS)])

    def test_every_two_directions(self):
        for first, second in itertools.combinations(COMPASS, 2):
            for far, farther in ((1, 1), (5, 1), (1, 5)):
                a, b = (far * first[0], far * first[1]), (farther * second[0], farther * second[1])
                self.check_call((0, 0), [a, b], [a, b])
                self.check_call((0, 0), [b, a], [a, b])

    def test_one_direction(self):
        for x, y in COMPASS:
            self.check((0, 0), [(x * step, y * step) for step in (1, 2, 3, 5, 8, 100, 1 << 61)])
            self.check((7, -9), [(7 + x * step, y * step - 9) for step in (0, 0, 1, 1, 2, 4, 4, 9)])
            self.check((0, 0), [(3 * x, 3 * y), (4 * x, 4 * y), (5 * x, 5 * y)])
        self.check((0, 0), [(6, 4), (9, 6), (15, 10)])
        self.check((LOW, LOW), [(LOW + 1, LOW + 1), (-1, -1), (0, 0), (HIGH - 1, HIGH - 1), (HIGH, HIGH)])

    def test_opposite_directions(self):
        for x, y in COMPASS[:8]:
            for far, farther in ((1, 1), (3, 1), (1, 3)):
                self.check((0, 0), [(far * x, far * y), (-farther * x, -farther * y)])
                self.check((9, 8), [(9 + far * x, 8 + far * y), (9 - farther * x, 8 - farther * y)])
            self.check((0, 0), [(x, y), (2 * x, 2 * y), (5 * x, 5 * y), (-x, -y), (-3 * x, -3 * y), (-4 * x, -4 * y)])

    def test_just_below_growing_x(self):
        for far in (1, 2, 5, 1000, 1 << 32, 1 << 62, HIGH):
            self.check((0, 0), [(5, 0), (far, 1), (0, 3), (-far, 1), (-4, 0), (-far, -1), (0, -2), (far, -1)])
        self.check((LOW, 0), [(HIGH, 0), (HIGH, 1), (LOW, 1), (LOW, -1), (HIGH - 1, -1), (HIGH, -1)])
        self.check((LOW, HIGH), [(LOW + 1, HIGH), (HIGH, HIGH), (LOW, LOW), (HIGH, LOW), (HIGH, HIGH - 1)])

    def test_just_beside_the_axes(self):
        for far in (2, 3, 1000, 1 << 32, 1 << 62, HIGH):
            quarter = [(far, 0), (far, 1), (1, far)]
            self.check((0, 0), quarter + [(-y, x) for x, y in quarter] + [(-x, -y) for x, y in quarter]
                       + [(y, -x) for x, y in quarter])

    def test_equal_points_stay_as_many(self):
        self.check((0, 0), [(1, 1), (1, 1), (2, 2), (2, 2), (2, 2), (0, 1), (-1, -1), (-1, -1)])
        self.check((5, 5), [(5, 5), (5, 5), (6, 5), (6, 5), (6, 6), (1, 1), (1, 1), (1, 1)])
        for size in (1, 2, 3, 10):
            self.check((0, 0), [point for point in COMPASS for step in range(size)])
            self.check((4, 4), [(4, 4)] * size + [(HIGH, 4)] * size + [(LOW, 4)] * size)

    def test_o_at_the_ends_of_the_range(self):
        self.check((LOW, LOW), [(LOW, LOW), (LOW + 1, LOW), (HIGH, LOW), (HIGH, HIGH), (LOW, LOW + 1), (LOW, HIGH)])
        self.check((HIGH, LOW), [(HIGH, LOW), (HIGH, LOW + 1), (HIGH, HIGH), (LOW, HIGH), (HIGH - 1, LOW), (LOW, LOW)])
        self.check((HIGH, HIGH), [(HIGH, HIGH), (HIGH - 1, HIGH), (LOW, HIGH), (LOW, LOW), (HIGH, 0), (HIGH, LOW)])
        self.check((LOW, HIGH), [(LOW, HIGH), (LOW + 1, HIGH), (HIGH, HIGH), (LOW, HIGH - 1), (LOW, LOW), (HIGH, LOW)])
        self.check((0, 0), [(HIGH, HIGH), (LOW, HIGH), (LOW, LOW), (HIGH, LOW)])
        self.check((-1, -1), [(HIGH, HIGH), (LOW, HIGH), (LOW, LOW), (HIGH, LOW)])

    def test_directions_that_differ_by_little(self):
        self.check((LOW, LOW), [(HIGH - 1, HIGH - 2), (HIGH, HIGH - 1), (HIGH, HIGH), (HIGH - 1, HIGH)])
        self.check((HIGH, LOW), [(LOW + 1, HIGH), (LOW, HIGH), (LOW, HIGH - 1), (LOW + 1, HIGH - 2)])
        self.check((HIGH, HIGH), [(LOW + 1, LOW + 2), (LOW, LOW + 1), (LOW, LOW), (LOW + 1, LOW)])
        self.check((LOW, HIGH), [(HIGH - 1, LOW), (HIGH, LOW), (HIGH, LOW + 1), (HIGH - 1, LOW + 2)])
        self.check((LOW, LOW), [(HIGH, LOW + 1), (HIGH - 1, LOW + 1), (LOW + 1, HIGH - 1), (LOW + 1, HIGH)])
        self.check((0, 0), [(HIGH - 1, HIGH - 2), (HIGH, HIGH - 1), (HIGH, HIGH), (HIGH - 1, HIGH), (LOW, HIGH)])

    def test_directions_with_a_turn_of_one(self):
        checked = 0
        for bits in (8, 26, 31, 32, 52, 53, 62, 63, 64):
            for by in range(40):
                x, y = (1 << bits) - 1 - by, (1 << bits) // 3 + 7 * by
                for point in ((x, y), (y, x), (x, x - 1), (x - 1, x), (x, 1), (x, 2), (2, x)):
                    left = just_left_of(*point) if math.gcd(*point) == 1 else (0, 0)
                    if min(left) > 0:
                        self.check_order([point, left])
                        checked += 1
        self.assertGreater(checked, 1000)

    def test_all_choices_of_a_small_grid(self):
        points = list(itertools.product(range(3), repeat=2))
        for o in points + [(-1, 1), (5, 3), (1, -2)]:
            for size in (1, 2, 3):
                for chosen in itertools.product(points, repeat=size):
                    self.check_by_turns(o, list(chosen))

    def test_all_choices_of_the_middle_and_the_ends(self):
        points = list(itertools.product((LOW, 0, HIGH), (LOW, -1, HIGH)))
        for o in points + [(0, 0), (LOW + 1, HIGH - 1)]:
            for size in (1, 2, 3):
                for chosen in itertools.product(points, repeat=size):
                    self.check_by_turns(o, list(chosen))

    def test_whole_grids(self):
        grid = list(itertools.product(range(-4, 5), repeat=2))
        for o in grid + [(9, 9), (-20, 3), (0, -7)]:
            for points in other_orders(grid):
                self.check_by_turns(o, points)

    def test_scattered_points(self):
        for size in (5, 13, 40):
            for width in (7, 20, 50):
                for seed in range(20):
                    o, *points = scattered(size + 1, width, 100 * size + 20 * width + seed)
                    self.check_by_turns(o, points + points[::3] + [o])
                    step = WIDTH // (width - 1)
                    o, *wide = [(LOW + step * x, HIGH - step * y) for x, y in [o] + points]
                    self.check_by_turns(o, wide)
                    self.check_by_turns((0, -1), wide)

    def test_every_number_of_points_to_a_hundred(self):
        for size in range(1, 101):
            rising = [(size - place, place) for place in range(size)]
            self.check((0, 0), rising)
            self.check((0, 0), rising + [(-x, -y) for x, y in rising])
            self.check((1, 1), [(1, 1)] * size)

    def test_most_points(self):
        rising = [(4096 - place, place) for place in range(4096)]
        self.check_most((0, 0), rising, rising)
        quarter = rising[::4]
        circle = (quarter + [(-y, x) for x, y in quarter] + [(-x, -y) for x, y in quarter]
                  + [(y, -x) for x, y in quarter])
        self.check_most((0, 0), circle, circle)
        self.check_most((7, -7), [(x + 7, y - 7) for x, y in circle], [(x + 7, y - 7) for x, y in circle])

    def test_most_points_in_few_directions(self):
        self.check_most((3, 4), [(3, 4)] * 4096, [(3, 4)] * 4096)
        ray = [(3 * step, -5 * step) for step in range(4096)]
        self.check_most((0, 0), ray, ray)
        line = [(step, step) for step in range(4096)]
        self.check_most((1000, 1000), line, line[1000:] + line[999::-1])
        spokes = [(x * step, y * step) for x, y in COMPASS for step in range(1, 257)]
        self.check_most((0, 0), spokes, spokes)

    def test_most_points_of_a_grid(self):
        grid = list(itertools.product(range(64), repeat=2))
        for o in ((0, 0), (31, 32), (63, 63), (-1, 70)):
            self.check_most(o, grid, by_turns(o, grid))
        step = WIDTH // 63
        wide = [(LOW + step * x, LOW + step * y) for x, y in grid]
        for o in ((LOW, LOW), (0, 0), (HIGH, LOW)):
            self.check_most(o, wide, by_turns(o, wide))

    def test_most_points_that_differ_by_little(self):
        close = [(HIGH - place, HIGH - 1 - place) for place in range(4096)]
        self.check_most((LOW, LOW), close, close[::-1])
        self.check_most((0, 0), close, close[::-1])

    def test_most_points_without_deep_calls(self):
        points = [(place, place * place) for place in range(1, 4097)]
        handed = flat(points[::-1])
        self.assertEqual(with_few_calls_left(lambda: around(4096, [0, 0], handed)), [0] + flat(points))

    def test_nothing_is_kept(self):
        for n, p in ((0, []), (1, [5, 5]), (3, [0, 0, 1, 0, 9, 9]), (2, [5, 5, 5, 5])):
            around(n, [5, 5], p)
            nearest(n, p if n > 1 else [])
            self.assertEqual(around(2, [0, 0], [0, 1, 1, 0]), [0, 1, 0, 0, 1])
            self.assertEqual(around(2, [1, 1], [0, 1, 1, 0]), [0, 0, 1, 1, 0])


if __name__ == "__main__":
    unittest.main()
