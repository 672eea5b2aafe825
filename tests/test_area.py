"""Promise 4: area answers 0, and twice the area of the ring, with its sign."""

import itertools
import unittest

from exactplane.plane import area, hull
from handed_in import HIGH, LOW, check_points_call, check_refusals, flat, with_few_calls_left


def turn(a, b, c):
    return (b[0] - a[0]) * (c[1] - a[1]) - (b[1] - a[1]) * (c[0] - a[0])


def by_triangles(points):
    """Twice the ring's area from the triangles that its edges make with its first point."""
    return sum(turn(points[0], b, c) for b, c in zip(points, points[1:]))


class AreaTest(unittest.TestCase):
    def check(self, points, twice):
        """From each point on for small rings, and backwards, which turns the sign."""
        for first in range(len(points) if len(points) < 20 else 1):
            ring = points[first:] + points[:first]
            check_points_call(self, area, ring, [0, twice])
            check_points_call(self, area, ring[::-1], [0, -twice])

    def test_refusals(self):
        check_refusals(self, area)

    def test_one_point(self):
        for point in ((0, 0), (3, -4), (LOW, LOW), (HIGH, HIGH), (LOW, HIGH), (HIGH, LOW)):
            self.check([point], 0)

    def test_two_points(self):
        for a, b in itertools.product(((0, 0), (3, -4), (LOW, HIGH), (HIGH, HIGH), (HIGH, LOW)), repeat=2):
            self.check([a, b], 0)

    def test_counterclockwise_is_above_zero(self):
        self.assertEqual(area(3, [0, 0, 4, 0, 0, 3]), [0, 12])
        self.check([(0, 0), (4, 0), (0, 3)], 12)
        self.check([(0, 0), (1, 0), (0, 1)], 1)
        self.check([(-5, -7), (2, -6), (-4, 8)], 104)
        self.check([(0, 0), (4, 0), (4, 4), (0, 4)], 32)

    def test_clockwise_is_below_zero(self):
        self.assertEqual(area(3, [0, 0, 0, 3, 4, 0]), [0, -12])
        self.check([(0, 0), (0, 3), (4, 0)], -12)
        self.check([(0, 4), (4, 4), (4, 0), (0, 0)], -32)

    def test_one_line(self):
        self.check([(0, 0), (1, 2), (2, 4)], 0)
        self.check([(3, 0), (3, 9), (3, 5), (3, -8)], 0)
        self.check([(0, 3), (9, 3), (5, 3)], 0)
        self.check([(LOW, LOW), (0, 0), (HIGH, HIGH)], 0)

    def test_dented_rings(self):
        self.check([(0, 0), (4, 0), (4, 4), (2, 1), (0, 4)], 20)
        self.check([(0, 0), (3, 0), (3, 1), (1, 1), (1, 3), (0, 3)], 10)

    def test_rings_that_cross_themselves(self):
        self.check([(0, 0), (2, 2), (2, 0), (0, 2)], 0)
        self.check([(0, 0), (4, 4), (4, 0), (0, 2)], -8)
        # The five-pointed way goes round its middle twice, and counts it twice.
        self.check([(0, 10), (-6, -8), (10, 3), (-10, 3), (6, -8)], 304)

    def test_rings_that_go_round_twice(self):
        square = [(0, 0), (3, 0), (3, 3), (0, 3)]
        self.check(square + square, 36)
        self.check(square + [(0, 0), (0, 3), (3, 3), (3, 0)], 0)

    def test_equal_points(self):
        for size in (2, 3, 5, 4096):
            self.check([(7, -2)] * size, 0)
            self.check([(LOW, HIGH)] * size, 0)
        self.check([(0, 0), (0, 0), (4, 0), (4, 0), (4, 0), (0, 3), (0, 0)], 12)
        self.check([(0, 0), (4, 0), (0, 0), (0, 3)], 0)

    def test_the_whole_range(self):
        square = [(LOW, LOW), (HIGH, LOW), (HIGH, HIGH), (LOW, HIGH)]
        self.check(square, 680564733841876926852962238568698216450)
        self.check(square[:3], 340282366920938463426481119284349108225)
        self.check(square[1:], 340282366920938463426481119284349108225)

    def test_little_areas_at_the_ends_of_the_range(self):
        self.check([(LOW, LOW), (HIGH - 1, HIGH - 2), (HIGH, HIGH - 1)], 1)
        self.check([(HIGH, HIGH), (LOW + 1, LOW + 2), (LOW, LOW + 1)], 1)
        for x, y in itertools.product((LOW, HIGH - 1), repeat=2):
            self.check([(x, y), (x + 1, y), (x, y + 1)], 1)
            self.check([(x, y), (x + 1, y), (x + 1, y + 1), (x, y + 1)], 2)

    def test_areas_that_vanish_or_change_sign_in_fewer_bits(self):
        for bits in (16, 31, 32, 48, 62):
            far = 1 << bits
            self.check([(0, 0), (far, 0), (0, far)], far * far)
            self.check([(0, 0), (far, 0), (far, far), (0, far)], 2 * far * far)
        self.check([(0, 0), (1 << 32, 0), (0, 1 << 31)], 1 << 63)

    def test_all_rings_of_a_small_grid(self):
        points = list(itertools.product((-1, 0, 2), repeat=2))
        for size in (1, 2, 3, 4):
            for ring in itertools.product(points, repeat=size):
                self.assertEqual(area(size, flat(ring)), [0, by_triangles(ring)], ring)

    def test_all_rings_of_the_middle_and_the_ends(self):
        points = list(itertools.product((LOW, 0, HIGH), repeat=2))
        for size in (3, 4):
            for ring in itertools.product(points, repeat=size):
                self.assertEqual(area(size, flat(ring)), [0, by_triangles(ring)], ring)

    def test_every_number_of_points_to_a_hundred(self):
        for size in range(3, 101):
            bow = [(place, place * place) for place in range(size)]
            # Each edge from place to place + 1 adds place * (place + 1), and the last one nothing.
            self.check(bow, (size - 2) * (size - 1) * size // 3)

    def test_most_points(self):
        comb = [(place, 0) for place in range(2048)] + [(place, 1) for place in reversed(range(2048))]
        self.assertEqual(len(comb), 4096)
        self.check(comb, 4094)
        self.check([(LOW + x, HIGH - 1 + y) for x, y in comb], 4094)
        self.check([(LOW, LOW), (HIGH, LOW), (HIGH, HIGH), (LOW, HIGH)] * 1024, 2048 * (HIGH - LOW) ** 2)
        self.check([(LOW, LOW), (HIGH, HIGH), (HIGH, LOW), (LOW, HIGH)] * 1024, 0)

    def test_most_points_without_deep_calls(self):
        handed = flat([(place, place * place) for place in range(4096)])
        self.assertEqual(with_few_calls_left(lambda: area(4096, handed)), area(4096, handed))

    def test_nothing_is_kept(self):
        for other in ((1, [5, 5]), (0, []), (3, [9, 9, -9, 9, 0, 30])):
            area(*other)
            hull(*other)
            self.assertEqual(area(4, [0, 0, 2, 0, 2, 2, 0, 2]), [0, 8])


if __name__ == "__main__":
    unittest.main()
