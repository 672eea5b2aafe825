"""Promise 3: hull answers how many corners the smallest convex area of the points has, and they."""

import itertools
import unittest
from fractions import Fraction

from exactplane.plane import area, hull
from handed_in import HIGH, LOW, check_points_call, check_refusals, flat, other_orders, with_few_calls_left


def turn(a, b, c):
    return (b[0] - a[0]) * (c[1] - a[1]) - (b[1] - a[1]) * (c[0] - a[0])


def is_between(a, b, q):
    """Whether q is in the segment ab."""
    return turn(a, b, q) == 0 and min(a, b) <= q <= max(a, b)


def is_in_triangle(a, b, c, q):
    """Whether q is in the smallest convex area of a, b, c."""
    turns = (turn(a, b, q), turn(b, c, q), turn(c, a, q))
    if turn(a, b, c) == 0:
        return is_between(a, b, q) or is_between(b, c, q) or is_between(c, a, q)
    return min(turns) >= 0 or max(turns) <= 0


class Grid:
    """Corners by the promise's own words: a point in the area of others is in a triangle of three of them at most."""

    def __init__(self, xs, ys):
        self.points = list(itertools.product(xs, ys))
        self.covers = [self.covers_of(place) for place in range(len(self.points))]

    def covers_of(self, place):
        """The sets of others, as bits, that have the point in their area."""
        others = [other for other in range(len(self.points)) if other != place]
        found = []
        for places in itertools.combinations_with_replacement(others, 3):
            a, b, c = [self.points[other] for other in places]
            if is_in_triangle(a, b, c, self.points[place]):
                found.append(sum(1 << other for other in set(places)))
        return found

    def corners(self, chosen):
        """Of the points whose bits are set those that aren't in the area of the others."""
        return [point for place, point in enumerate(self.points)
                if chosen >> place & 1 and not any(cover & chosen == cover for cover in self.covers[place])]

    def chosen_points(self, chosen):
        return [point for place, point in enumerate(self.points) if chosen >> place & 1]


def ring_of_directions(quarter):
    """A ring that has, counterclockwise from its first corner, an edge in each direction of each quarter."""
    steps = []
    for a, b in [(a, b) for a, b in quarter if b > 0]:
        steps.append((b, -a))
    steps.extend(quarter)
    steps.extend((-b, a) for a, b in quarter)
    steps.extend((-a, -b) for a, b in quarter)
    # The way straight down leads to the lowest of those with the smallest x, so it's the last.
    steps.extend((b, -a) for a, b in quarter if b == 0)
    ring = [(0, 0)]
    for x, y in steps:
        ring.append((ring[-1][0] + x, ring[-1][1] + y))
    assert ring.pop() == (0, 0)
    return ring


def directions_of_a_quarter(size):
    """So many directions from that of growing x on, ahead of that of growing y, no two the same."""
    slopes = sorted({Fraction(b, a) for a in range(1, 60) for b in range(0, 60)})
    plainest = sorted(slopes, key=lambda slope: slope.numerator + slope.denominator)[:size]
    return [(slope.denominator, slope.numerator) for slope in sorted(plainest)]


class HullTest(unittest.TestCase):
    def check(self, points, corners):
        """In whatever order the points come."""
        for order in other_orders(points):
            check_points_call(self, hull, order, [len(corners)] + flat(corners))

    def check_answer(self, points, corners):
        """The corners are these in any order; the order of the answer is as promised."""
        answer = hull(len(points), flat(points))
        found = list(zip(answer[1::2], answer[2::2]))
        self.assertEqual(answer, [len(corners)] + flat(found), points)
        self.assertEqual(sorted(found), sorted(corners), points)
        self.assertEqual(found[0], min(corners), points)
        for a, b, c in itertools.combinations(found, 3):
            self.assertGreater(turn(a, b, c), 0, points)

    def check_all_of_grid(self, xs, ys):
        grid = Grid(xs, ys)
        for chosen in range(1, 1 << len(grid.points)):
            points = grid.chosen_points(chosen)
            jumping = points[1::2] + points[0::2][::-1]
            self.check_answer(jumping, grid.corners(chosen))

    def test_refusals(self):
        check_refusals(self, hull)

    def test_one_point(self):
        for point in ((0, 0), (3, -4), (LOW, LOW), (HIGH, HIGH), (LOW, HIGH), (HIGH, LOW)):
            self.check([point], [point])

    def test_two_points(self):
        self.check([(0, 0), (1, 2)], [(0, 0), (1, 2)])
        self.check([(0, 5), (1, 2)], [(0, 5), (1, 2)])
        self.check([(4, 5), (4, 2)], [(4, 2), (4, 5)])
        self.check([(9, 5), (4, 5)], [(4, 5), (9, 5)])
        self.check([(HIGH, LOW), (LOW, HIGH)], [(LOW, HIGH), (HIGH, LOW)])
        self.check([(LOW, HIGH), (LOW, LOW)], [(LOW, LOW), (LOW, HIGH)])

    def test_equal_points(self):
        for size in (2, 3, 4, 7, 4096):
            for point in ((0, 0), (5, -6), (HIGH, LOW)):
                self.check([point] * size, [point])

    def test_two_points_several_times(self):
        for size in (1, 2, 5):
            self.check([(1, 1)] + [(0, 3)] * size, [(0, 3), (1, 1)])
            self.check([(1, 1)] * size + [(0, 3)], [(0, 3), (1, 1)])
            self.check([(1, 1)] * 3 + [(1, 0)] * size, [(1, 0), (1, 1)])

    def test_one_line(self):
        for x, y in ((1, 0), (0, 1), (1, 1), (2, -3), (5, 1), (1, -7)):
            line = [(x * step - 9, y * step + 4) for step in (0, 1, 2, 4, 9, 10)]
            self.check(line, [min(line), max(line)])
            self.check(line + line[2:4] * 2, [min(line), max(line)])
            self.check(line + line, [min(line), max(line)])

    def test_one_line_in_every_order(self):
        for x, y in ((1, 0), (0, 1), (1, 1), (2, -3)):
            line = [(x * step, y * step) for step in (0, 1, 1, 2, 5)]
            for order in itertools.permutations(line):
                self.assertEqual(hull(5, flat(order)), [2] + flat([min(line), max(line)]), order)

    def test_triangles(self):
        self.check([(0, 0), (4, 0), (0, 3)], [(0, 0), (4, 0), (0, 3)])
        self.check([(0, 0), (4, 1), (9, -3)], [(0, 0), (9, -3), (4, 1)])
        self.check([(5, 0), (-4, 1), (5, -3)], [(-4, 1), (5, -3), (5, 0)])

    def test_squares(self):
        square = [(0, 0), (4, 0), (4, 4), (0, 4)]
        self.check(square, square)
        self.check([(0, -2), (2, 0), (0, 2), (-2, 0)], [(-2, 0), (0, -2), (2, 0), (0, 2)])

    def test_points_on_edges_are_no_corners(self):
        square = [(0, 0), (4, 0), (4, 4), (0, 4)]
        on_edges = [(1, 0), (2, 0), (4, 1), (4, 3), (3, 4), (1, 4), (0, 3), (0, 2)]
        self.check(square + on_edges, square)
        self.check(on_edges + square, square)
        self.check([(0, 0), (6, 3), (2, 1), (4, 2), (0, 9), (4, 5), (2, 7)], [(0, 0), (6, 3), (0, 9)])

    def test_points_inside(self):
        square = [(0, 0), (9, 0), (9, 9), (0, 9)]
        self.check(square + [(1, 1), (8, 8), (1, 8), (4, 5), (4, 5)], square)
        self.check([(0, 0), (100, 1), (50, 1), (99, 1), (1, 1), (0, 2)], [(0, 0), (100, 1), (0, 2)])

    def test_equal_corners(self):
        triangle = [(0, 0), (4, 0), (0, 3)]
        for corner in triangle:
            self.check(triangle + [corner], triangle)
            self.check(triangle + [corner] * 3 + [(1, 1)] * 2, triangle)
        self.check(triangle * 5, triangle)

    def test_first_corner_of_several_with_the_smallest_x(self):
        corners = [(-3, -1), (5, 5), (-3, 8)]
        self.check([(-3, 2), (-3, 8), (-3, -1), (5, 5), (-3, 3)], corners)
        self.check([(LOW, HIGH), (LOW, LOW), (0, LOW), (LOW, 0)], [(LOW, LOW), (0, LOW), (LOW, HIGH)])
        self.check([(2, 9), (2, 4), (1, 7), (9, 0)], [(1, 7), (2, 4), (9, 0), (2, 9)])

    def test_every_order_of_some_points(self):
        points = [(0, 0), (3, 0), (3, 3), (1, 1), (0, 2), (3, 1), (0, 0)]
        for order in itertools.permutations(points):
            self.assertEqual(hull(7, flat(order)), [4, 0, 0, 3, 0, 3, 3, 0, 2], order)

    def test_corners_of_the_range(self):
        square = [(LOW, LOW), (HIGH, LOW), (HIGH, HIGH), (LOW, HIGH)]
        self.check(square, square)
        self.check(square + [(0, 0), (LOW, 7), (-9, HIGH), (LOW + 1, HIGH - 1), (HIGH, 0)], square)
        inner = [(LOW, LOW), (HIGH, LOW), (HIGH, HIGH), (LOW, HIGH - 1)]
        self.check(inner + [(LOW, HIGH - 2), (HIGH - 1, HIGH - 1)], inner)

    def test_turn_of_one_at_the_ends_of_the_range(self):
        self.check([(LOW, LOW), (HIGH, HIGH - 1), (HIGH - 1, HIGH - 2)],
                   [(LOW, LOW), (HIGH - 1, HIGH - 2), (HIGH, HIGH - 1)])
        self.check([(HIGH, HIGH), (LOW, LOW + 1), (LOW + 1, LOW + 2)],
                   [(LOW, LOW + 1), (HIGH, HIGH), (LOW + 1, LOW + 2)])
        self.check([(LOW, HIGH), (HIGH, LOW + 1), (HIGH - 1, LOW + 2)],
                   [(LOW, HIGH), (HIGH, LOW + 1), (HIGH - 1, LOW + 2)])

    def test_missed_by_a_turn_of_one(self):
        triangle = [(LOW, LOW), (HIGH, HIGH - 1), (LOW, HIGH)]
        self.check(triangle + [(LOW, 0)], triangle)
        self.check(triangle + [(HIGH - 1, HIGH - 2)], [(LOW, LOW), (HIGH - 1, HIGH - 2), (HIGH, HIGH - 1), (LOW, HIGH)])
        turned = [(LOW, LOW), (HIGH, LOW), (HIGH, HIGH - 1)]
        self.check(turned + [(HIGH - 1, HIGH - 2)], turned)

    def test_turn_of_zero_at_the_ends_of_the_range(self):
        self.check([(LOW, LOW), (0, 0), (HIGH, HIGH)], [(LOW, LOW), (HIGH, HIGH)])
        self.check([(LOW, HIGH), (-1, 0), (HIGH, LOW), (0, -1)], [(LOW, HIGH), (HIGH, LOW)])
        self.check([(LOW, LOW), (0, 0), (HIGH, HIGH), (0, 1)], [(LOW, LOW), (HIGH, HIGH), (0, 1)])
        self.check([(LOW, LOW), (0, 0), (HIGH, HIGH), (1, 0)], [(LOW, LOW), (1, 0), (HIGH, HIGH)])

    def test_turns_that_vanish_in_64_bits(self):
        far = 1 << 32
        self.check([(0, 0), (far, 0), (0, far)], [(0, 0), (far, 0), (0, far)])
        self.check([(0, 0), (far, 0), (far, far), (0, far)], [(0, 0), (far, 0), (far, far), (0, far)])

    def test_small_rings_far_out(self):
        ring = [(0, 2), (1, 0), (3, 0), (5, 1), (5, 3), (3, 5), (1, 4)]
        for x, y in itertools.product((LOW, HIGH - 5, 1 << 53), repeat=2):
            corners = [(x + a, y + b) for a, b in ring]
            self.check(corners + [(x + 2, y + 2), (x + 3, y + 1)], corners)

    def test_all_choices_of_a_small_grid(self):
        self.check_all_of_grid((0, 1, 2, 3), (0, 1, 2))

    def test_all_choices_of_the_middle_and_the_ends(self):
        self.check_all_of_grid((LOW, 0, HIGH), (LOW, 0, HIGH))

    def test_all_choices_close_to_the_ends(self):
        self.check_all_of_grid((LOW, LOW + 1, HIGH), (LOW, HIGH - 1, HIGH))

    def test_circle_like_rings(self):
        for size in (1, 2, 5, 20, 100):
            ring = ring_of_directions(directions_of_a_quarter(size))
            self.assertEqual(len(ring), 4 * size)
            self.check(ring, ring)
            doubled = [(2 * x, 2 * y) for x, y in ring]
            for reach in (1, 2, 3):
                middles = [(a[0] + b[0], a[1] + b[1]) for a, b in zip(ring, ring[reach:])]
                self.check(doubled + middles, doubled)

    def test_most_points_all_of_them_corners_of_a_circle_like_ring(self):
        ring = ring_of_directions(directions_of_a_quarter(1024))
        self.assertEqual(len(ring), 4096)
        self.check(ring, ring)
        width = max(x for x, y in ring)
        low = min(y for x, y in ring)
        scale = (HIGH - LOW) // width
        wide = [(LOW + scale * x, LOW + scale * (y - low)) for x, y in ring]
        self.check(wide, wide)

    def test_most_points_all_of_them_corners_of_a_bow(self):
        bow = [(place - 2048, place * place) for place in range(4096)]
        self.check(bow, bow)
        self.check([(LOW + x + 2048, LOW + y) for x, y in bow], [(LOW + x + 2048, LOW + y) for x, y in bow])
        turned = [(x, HIGH - y) for x, y in bow]
        self.check(turned, [turned[0]] + turned[:0:-1])

    def test_most_points_nearly_none_of_them_corners(self):
        grid = list(itertools.product(range(64), repeat=2))
        self.check(grid, [(0, 0), (63, 0), (63, 63), (0, 63)])
        line = [(LOW + place, HIGH - 2 * place) for place in range(4096)]
        self.check(line, [line[0], line[-1]])
        bow = [(place, place * place) for place in range(4094)]
        self.check(bow + [(0, HIGH), (HIGH, 0)], [(0, 0), (HIGH, 0), (0, HIGH)])

    def test_most_points_without_deep_calls(self):
        bow = [(place, place * place) for place in range(4096)]
        for points in (bow, bow[::-1], bow[:4095] + [(5000, 0)]):
            handed = flat(points)
            self.assertEqual(with_few_calls_left(lambda: hull(4096, handed)), hull(4096, handed))

    def test_nothing_is_kept(self):
        square = [0, 0, 2, 0, 2, 2, 0, 2]
        for other in ((1, [5, 5]), (0, []), (3, [9, 9, -9, 9, 0, 30])):
            hull(*other)
            area(*other)
            self.assertEqual(hull(4, square), [4] + square)


if __name__ == "__main__":
    unittest.main()
