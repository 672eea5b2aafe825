"""Promise 5: within answers 2 if q is on an edge of the ring, else 1 if the ring goes round q oddly often, 0 else."""

import itertools
import unittest
from fractions import Fraction

from exactplane.plane import simple, within
from handed_in import (HIGH, LOW, NO_NUMBERS_OF_POINTS, check_lists_call, flat, meet_by_fractions, views,
                       with_few_calls_left)

SQUARE = [(0, 0), (4, 0), (4, 4), (0, 4)]
DIRECTIONS = ((1, 0), (-1, 0), (0, 1), (0, -1), (97, 13), (-89, 17), (-19, -83), (23, -79))


def across(direction, q, point):
    """Above 0, 0 or below 0 as the point is to the left of the line from q in the direction, on it, or to its right."""
    return direction[0] * (point[1] - q[1]) - direction[1] * (point[0] - q[0])


def along(direction, q, point):
    """Above 0 if the point is ahead of q in the direction."""
    return direction[0] * (point[0] - q[0]) + direction[1] * (point[1] - q[1])


def is_free(direction, q, points):
    """Whether the half-line from q in the direction has none of the points on it."""
    return not any(across(direction, q, point) == 0 and along(direction, q, point) >= 0 for point in points)


def crosses(direction, q, a, b):
    """Whether the half-line, which has neither a nor b on it, crosses the edge ab."""
    start, end = across(direction, q, a), across(direction, q, b)
    if start * end >= 0:
        return False
    t = Fraction(start, start - end)
    return along(direction, q, (a[0] + t * (b[0] - a[0]), a[1] + t * (b[1] - a[1]))) > 0


def edges_of(ring):
    return list(zip(ring, ring[1:] + ring[:1]))


class Grid:
    """What within must answer by the promise's own words, of rings of a grid's points as seen from q."""

    def __init__(self, points, q):
        self.free = [direction for direction in DIRECTIONS if is_free(direction, q, set(points) - {q})]
        pairs = list(itertools.product(points, repeat=2))
        self.has = {(a, b): meet_by_fractions(a, b, q, q) > 0 for a, b in pairs}
        self.crossed = {(a, b): [crosses(direction, q, a, b) for direction in self.free] for a, b in pairs}

    def answer(self, ring):
        edges = edges_of(ring)
        if any(self.has[edge] for edge in edges):
            return 2
        # Whatever half-line is chosen, it has to cross an odd number of edges, or each an even number.
        found = {sum(crossed) % 2 for crossed in zip(*[self.crossed[edge] for edge in edges])}
        assert len(found) == 1
        return found.pop()


class WithinTest(unittest.TestCase):
    def check(self, ring, q, expected):
        """From whatever point on, both ways round, and however it's turned or mirrored."""
        for *points, seen in views(ring + [q]):
            for first in range(len(points) if len(points) < 8 else 1):
                again = points[first:] + points[:first]
                for way in (again, again[::-1]):
                    check_lists_call(self, lambda p, at: within(len(way), p, at), [flat(way), seen], [expected])

    def check_row(self, ring, y, expected):
        """From x = -1 on, all points of the row."""
        for x, answer in enumerate(expected, start=-1):
            self.check(ring, (x, y), int(answer))

    def check_grid(self, xs, ys, sizes, qs):
        points = list(itertools.product(xs, ys))
        for q in qs:
            grid = Grid(points, q)
            for size in sizes:
                for ring in itertools.product(points, repeat=size):
                    answer = within(size, flat(ring), list(q))
                    self.assertEqual(answer, [grid.answer(list(ring))], (ring, q))

    def test_refusals(self):
        for n in NO_NUMBERS_OF_POINTS:
            for q in ([0, 0], [3, -4], [LOW, HIGH]):
                check_lists_call(self, lambda p, at: within(n, p, at), [[], q], [-2])

    def test_plain_calls(self):
        square = [0, 0, 4, 0, 4, 4, 0, 4]
        self.assertEqual(within(4, square, [1, 2]), [1])
        self.assertEqual(within(4, square, [5, 2]), [0])
        self.assertEqual(within(4, square, [4, 2]), [2])

    def test_one_point(self):
        for point in ((0, 0), (3, -4), (LOW, LOW), (HIGH, LOW), (LOW, HIGH)):
            self.check([point], point, 2)
        for x, y in ((1, 0), (0, 1), (-1, 0), (0, -1), (1, 1), (-5, 3), (LOW, 0), (0, HIGH)):
            self.check([(0, 0)], (x, y), 0)
        self.check([(LOW, LOW)], (HIGH, HIGH), 0)
        self.check([(LOW, LOW)], (LOW, LOW + 1), 0)

    def test_two_points(self):
        for a, b, middle, beyond in (((0, 0), (4, 0), (1, 0), (5, 0)), ((0, 0), (4, 2), (2, 1), (6, 3)),
                                     ((-3, 3), (3, -3), (1, -1), (-4, 4)), ((2, 9), (2, 5), (2, 6), (2, 10))):
            for q in (a, b, middle):
                self.check([a, b], q, 2)
                self.check([a, b, b], q, 2)
            self.check([a, b], beyond, 0)
            x, y = b[0] - a[0], b[1] - a[1]
            self.check([a, b], (middle[0] - y, middle[1] + x), 0)
            self.check([a, b], (middle[0] + y, middle[1] - x), 0)
            self.check([a, a, b], (a[0] + y, a[1] - x), 0)

    def test_two_points_at_the_ends_of_the_range(self):
        self.check([(LOW, LOW), (HIGH, HIGH)], (0, 0), 2)
        self.check([(LOW, LOW), (HIGH, HIGH)], (0, 1), 0)
        self.check([(LOW, LOW), (HIGH, HIGH)], (HIGH, HIGH), 2)
        self.check([(LOW, LOW), (HIGH, HIGH - 1)], (0, 0), 0)
        self.check([(LOW, LOW), (HIGH - 1, HIGH - 1)], (HIGH, HIGH), 0)

    def test_equal_points_alone(self):
        for size in (2, 3, 4, 5, 4096):
            self.check([(7, -2)] * size, (7, -2), 2)
            self.check([(7, -2)] * size, (8, -2), 0)
            self.check([(7, -2)] * size, (7, 0), 0)

    def test_equal_points_among_others(self):
        ring = [(0, 0), (0, 0), (4, 0), (4, 0), (4, 0), (4, 4), (0, 4), (0, 4)]
        self.check_row(ring, 1, "0211120")
        self.check_row(ring, 0, "0222220")
        self.check_row(ring, 4, "0222220")
        self.check([(0, 0), (4, 0), (0, 0), (0, 3)], (2, 0), 2)
        self.check([(0, 0), (4, 0), (0, 0), (0, 3)], (0, 2), 2)
        self.check([(0, 0), (4, 0), (0, 0), (0, 3)], (1, 1), 0)

    def test_corners(self):
        for ring in (SQUARE, [(0, 0), (4, 1), (1, 3)], [(0, 0), (4, 0), (4, 4), (2, 1), (0, 4)]):
            for corner in ring:
                self.check(ring, corner, 2)

    def test_edges(self):
        ring = [(0, 0), (6, 0), (9, 6), (3, 6), (0, 3)]
        for q in ((1, 0), (5, 0), (7, 2), (8, 4), (8, 6), (4, 6), (2, 5), (1, 4), (0, 2), (0, 1)):
            self.check(ring, q, 2)
        for q in ((7, 0), (-1, 0), (9, 5), (10, 8), (5, -2), (2, 6), (1, 6), (0, 4), (0, -1), (10, 6)):
            self.check(ring, q, 0)

    def test_last_edge(self):
        for ring, q in (([(4, 0), (4, 4), (0, 0)], (2, 0)), ([(0, 4), (4, 4), (0, 0)], (0, 2)),
                        ([(4, 4), (0, 4), (0, 0)], (2, 2)), ([(0, 0), (5, 1), (9, 9), (4, 2)], (2, 1))):
            self.assertEqual(within(len(ring), flat(ring), list(q)), [2])
            self.check(ring, q, 2)

    def test_squares(self):
        for y, row in ((-1, "0000000"), (0, "0222220"), (1, "0211120"), (3, "0211120"), (4, "0222220"), (5, "0000000")):
            self.check_row(SQUARE, y, row)

    def test_triangles(self):
        triangle = [(0, 0), (6, 0), (0, 3)]
        for y, row in ((-1, "000000000"), (0, "022222220"), (1, "021112000"), (2, "021200000"), (3, "020000000")):
            self.check_row(triangle, y, row)

    def test_half_lines_through_corners(self):
        diamond = [(3, 0), (6, 3), (3, 6), (0, 3)]
        self.check_row(diamond, 3, "021111120")
        self.check_row(diamond, 0, "000020000")
        self.check_row(diamond, 6, "000020000")
        self.check_row(diamond, 2, "002111200")
        pointed = [(0, 0), (2, 3), (4, 0), (6, 3), (4, 6), (2, 3), (0, 6)]
        self.check_row(pointed, 3, "021211120")
        saw = [(0, 0), (8, 0), (8, 4), (6, 2), (4, 4), (2, 2), (0, 4)]
        for y, row in ((1, "02111111120"), (2, "02121112120"), (3, "02202120220"), (4, "02000200020")):
            self.check_row(saw, y, row)

    def test_half_lines_along_edges(self):
        stairs = [(0, 0), (6, 0), (6, 2), (4, 2), (4, 4), (2, 4), (2, 6), (0, 6)]
        for y, row in ((0, "022222220"), (2, "021112220"), (3, "021112000"), (4, "021222000"), (6, "022200000")):
            self.check_row(stairs, y, row)
        cross = [(2, 0), (4, 0), (4, 2), (6, 2), (6, 4), (4, 4), (4, 6), (2, 6), (2, 4), (0, 4), (0, 2), (2, 2)]
        self.check_row(cross, 2, "022212220")
        self.check_row(cross, 4, "022212220")
        self.check_row(cross, 3, "021111120")
        self.check_row(cross, 0, "000222000")
        notched = [(0, 0), (6, 0), (6, 4), (4, 4), (4, 2), (2, 2), (2, 4), (0, 4)]
        self.check_row(notched, 2, "021222120")
        self.check_row(notched, 4, "022202220")
        self.check_row(notched, 3, "021202120")

    def test_half_lines_along_several_edges_of_one_line(self):
        ring = [(0, 0), (9, 0), (9, 3), (7, 3), (6, 3), (5, 3), (5, 5), (3, 5), (3, 3), (2, 3), (2, 6), (0, 6)]
        for y, row in ((3, "021221222220"), (4, "021221200000"), (5, "021222200000"), (6, "022200000000")):
            self.check_row(ring, y, row)

    def test_dented_rings(self):
        dented = [(0, 0), (8, 0), (8, 8), (4, 2), (0, 8)]
        self.check(dented, (4, 1), 1)
        self.check(dented, (4, 2), 2)
        self.check(dented, (4, 3), 0)
        self.check(dented, (4, 8), 0)
        self.check(dented, (1, 6), 1)
        self.check(dented, (7, 6), 1)
        self.check(dented, (2, 5), 2)
        self.check(dented, (6, 5), 2)
        self.check(dented, (3, 4), 0)

    def test_spiral(self):
        spiral = [(0, 0), (9, 0), (9, 9), (2, 9), (2, 4), (5, 4), (5, 6), (4, 6), (4, 5), (3, 5), (3, 8), (8, 8),
                  (8, 1), (0, 1)]
        self.check(spiral, (8, 7), 2)
        for q, expected in (((1, 3), 0), ((6, 5), 0), ((7, 7), 0), ((4, 7), 0), ((3, 6), 2), ((4, 4), 2), ((5, 5), 2)):
            self.check(spiral, q, expected)
        wide = [(2 * x, 2 * y) for x, y in spiral]
        for q, expected in (((5, 9), 1), ((9, 9), 1), ((9, 11), 1), ((7, 11), 0), ((17, 9), 1), ((1, 1), 1),
                            ((1, 3), 0), ((5, 17), 1), ((13, 11), 0), ((7, 13), 0)):
            self.check(wide, q, expected)

    def test_rings_that_cross_themselves(self):
        bow = [(0, 0), (4, 4), (4, 0), (0, 4)]
        for y, row in ((0, "0200020"), (1, "0220220"), (2, "0212120"), (3, "0220220"), (4, "0200020")):
            self.check_row(bow, y, row)
        # The five-pointed way goes round its middle twice, and round its five points once.
        star = [(0, 10), (-6, -8), (10, 3), (-10, 3), (6, -8)]
        for q, expected in (((0, 0), 0), ((1, -2), 0), ((0, 7), 1), ((-7, 2), 1), ((7, 2), 1), ((5, -6), 1),
                            ((-5, -6), 1), ((0, -6), 0), ((5, 5), 0), ((0, 3), 2), ((0, 10), 2)):
            self.check(star, q, expected)

    def test_rings_that_go_round_several_times(self):
        for times in range(1, 7):
            self.check(SQUARE * times, (1, 2), times % 2)
            self.check(SQUARE * times, (2, 2), times % 2)
            self.check(SQUARE * times, (0, 2), 2)
            self.check(SQUARE * times, (5, 4), 0)
        rounds = [(0, 0), (9, 0), (9, 9), (1, 9), (1, 1), (8, 1), (8, 8), (2, 8), (2, 2), (7, 2), (7, 7), (0, 7)]
        self.check(rounds, (4, 4), 1)
        self.check(rounds[:8] + [(0, 8)], (4, 4), 0)
        self.check(rounds[:4] + [(0, 9)], (4, 4), 1)

    def test_there_and_back_again(self):
        back = SQUARE + [(0, 0), (0, 4), (4, 4), (4, 0)]
        self.check(back, (1, 2), 0)
        self.check(back, (4, 2), 2)
        inner = SQUARE + [(0, 0), (1, 1), (1, 3), (3, 3), (3, 1), (1, 1)]
        self.check(inner, (2, 2), 0)
        self.check([(2 * x, 2 * y) for x, y in inner], (1, 3), 1)

    def test_the_whole_range(self):
        square = [(LOW, LOW), (HIGH, LOW), (HIGH, HIGH), (LOW, HIGH)]
        for q in ((0, 0), (LOW + 1, LOW + 1), (HIGH - 1, LOW + 1), (HIGH - 1, 5), (-7, HIGH - 1)):
            self.check(square, q, 1)
            self.check(square * 2, q, 0)
        for q in ((LOW, LOW), (HIGH, LOW), (LOW, 0), (7, HIGH), (HIGH - 1, LOW), (HIGH, HIGH - 1)):
            self.check(square, q, 2)

    def test_beside_an_edge_by_little(self):
        lower = [(LOW, LOW), (HIGH, LOW), (HIGH, HIGH)]
        upper = [(LOW, LOW), (HIGH, HIGH), (LOW, HIGH)]
        for x in (LOW + 1, -1 << 62, -1, 0, 1, 1 << 53, HIGH - 1):
            self.check(lower, (x, x), 2)
            self.check(lower, (x, x - 1), 1 if x - 1 > LOW else 2)
            self.check(lower, (x, x + 1), 0)
            self.check(upper, (x, x - 1), 0)
            self.check(upper, (x, x + 1), 1 if x + 1 < HIGH else 2)

    def test_beside_an_edge_by_a_turn_of_one(self):
        slanting = [(LOW, LOW), (HIGH, HIGH - 1)]
        self.check(slanting + [(LOW, HIGH)], (HIGH - 1, HIGH - 2), 0)
        self.check(slanting + [(HIGH, LOW)], (HIGH - 1, HIGH - 2), 1)
        self.check(slanting + [(LOW, HIGH)], (LOW + 1, LOW + 1), 1)
        self.check(slanting + [(HIGH, LOW)], (LOW + 1, LOW + 1), 0)
        self.check(slanting + [(LOW, HIGH)], (0, 0), 1)
        self.check(slanting + [(HIGH, LOW)], (0, 0), 0)
        self.check(slanting + [(LOW, HIGH)], (0, -1), 0)
        self.check(slanting + [(HIGH, LOW)], (0, -1), 1)

    def test_turns_that_vanish_in_fewer_bits(self):
        for bits in (16, 31, 32, 53, 61):
            far = 1 << bits
            ring = [(0, 0), (far, 0), (2 * far, far), (far, 2 * far), (0, far)]
            self.check(ring, (far, far), 1)
            self.check(ring, (1, 1), 1)
            self.check(ring, (far + far // 2, far // 2), 2)
            self.check(ring, (far + far // 2 + 1, far // 2), 0)
            self.check(ring, (far + far // 2 - 1, far // 2), 1)
            self.check(ring, (2 * far, 0), 0)

    def test_all_rings_of_a_small_grid(self):
        qs = list(itertools.product((-1, 0, 1, 2, 3, 5), (-1, 0, 1, 2, 3, 4, 5)))
        self.check_grid((0, 2, 4), (0, 2, 4), (1, 2, 3), qs)

    def test_all_rings_of_four_points_of_a_small_grid(self):
        self.check_grid((0, 2, 4), (0, 2, 4), (4,), ((1, 1), (2, 2), (1, 2), (2, 3), (0, 2), (4, 0), (3, 3), (-1, 2)))

    def test_all_rings_of_five_points_of_a_small_grid(self):
        self.check_grid((0, 2), (0, 2, 4), (5,), ((1, 1), (1, 2), (0, 2), (1, 3)))

    def test_all_rings_of_the_middle_and_the_ends(self):
        ends = (LOW, 0, HIGH)
        near = ((0, 0), (-1, 0), (1, 1), (LOW, 0), (LOW + 1, -1), (HIGH - 1, HIGH - 1), (HIGH, LOW), (5, LOW + 3))
        self.check_grid(ends, ends, (1, 2, 3), near)
        self.check_grid((LOW, HIGH), ends, (4,), near)

    def test_every_number_of_points_to_a_hundred(self):
        for size in range(3, 101):
            bow = [(2 * place, 2 * place * place) for place in range(size)]
            self.check(bow, (3, 4), 0)
            self.check(bow, (3, 5), 2)
            # The last edge goes up by size - 1 for each step to the right.
            self.check(bow, (3, 6), 1 if size > 3 else 2)
            self.check(bow, (3, 3 * size - 3), 2)
            self.check(bow, (3, 3 * size - 2), 0)

    def test_most_points(self):
        comb = [(2 * place, 9 * (place % 2) + 1) for place in range(4094)] + [(8188, 0), (-2, 0)]
        self.assertEqual(len(comb), 4096)
        for q, expected in (((0, 1), 2), ((0, 2), 0), ((2, 9), 1), ((2, 10), 2), ((4000, 1), 2), ((4000, 2), 0),
                            ((4001, 5), 1), ((8186, 10), 2), ((8187, 4), 1), ((-1, 0), 2), ((8189, 0), 0),
                            ((-3, 0), 0)):
            self.check(comb, q, expected)

    def test_most_points_of_rings_that_go_round_often(self):
        square = [(LOW, LOW), (HIGH, LOW), (HIGH, HIGH), (LOW, HIGH)]
        self.check(square * 1024, (0, 0), 0)
        self.check(square * 1023 + [(LOW, LOW)] * 4, (0, 0), 1)
        self.check(square * 1024, (0, LOW), 2)
        self.check([(LOW, LOW), (HIGH, HIGH), (HIGH, LOW), (LOW, HIGH)] * 1024, (1, 1), 2)

    def test_most_points_without_deep_calls(self):
        handed = flat([(place, place * place) for place in range(4096)])
        self.assertEqual(with_few_calls_left(lambda: within(4096, handed, [2000, 5000000])), [1])

    def test_nothing_is_kept(self):
        square = flat(SQUARE)
        for other in ((1, [5, 5], [5, 5]), (0, [], [1, 1]), (3, [9, 9, -9, 9, 0, 30], [0, 10])):
            within(*other)
            simple(*other[:2])
            self.assertEqual(within(4, square, [1, 1]), [1])
            self.assertEqual(within(4, square, [9, 9]), [0])


if __name__ == "__main__":
    unittest.main()
