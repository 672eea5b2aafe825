"""Promise 6: simple answers 1 if a ring of three points or more has no edges that meet but each the next at its end."""

import functools
import itertools
import time
import unittest

from exactplane.plane import simple, within
from handed_in import (HIGH, LOW, check_points_call, check_refusals, flat, meet_by_fractions, scattered, views,
                       with_few_calls_left)

SQUARE = [(0, 0), (4, 0), (4, 4), (0, 4)]
# Seconds. A tenth of one is enough; looking at every two of 4096 edges takes about nine.
LONGEST = 3


@functools.cache
def meeting(first, second):
    """What two edges have in common: 0 for no point, 3 for more than one."""
    return meet_by_fractions(*first, *second)


def pairs_of_edges(ring):
    """Every two edges, and whether one follows the other."""
    edges = list(zip(ring, ring[1:] + ring[:1]))
    for place, other in itertools.combinations(range(len(ring)), 2):
        yield edges[place], edges[other], other - place in (1, len(ring) - 1)


def simple_by_pairs(ring):
    """What simple must answer, by looking at every two edges."""
    if len(ring) < 3:
        return 0
    for first, second, follows in pairs_of_edges(ring):
        found = meeting(first, second)
        if found == 3 or (found > 0 and not follows):
            return 0
    return 1


def less_tangled(ring):
    """The ring with the way between the first two edges that meet turned round, or None where none meet."""
    for place, other in itertools.combinations(range(len(ring)), 2):
        first = (ring[place], ring[place + 1])
        second = (ring[other], ring[(other + 1) % len(ring)])
        if 1 < other - place < len(ring) - 1 and meeting(first, second) > 0:
            return ring[:place + 1] + ring[place + 1:other + 1][::-1] + ring[other + 1:]
    return None


def stretched(ring, width):
    """The same ring of a square's points, all over the range of coordinates."""
    step = (HIGH - LOW) // (width - 1)
    return [(LOW + step * x, HIGH - step * y) for x, y in ring]


def teeth(size, height):
    """So many points of a way to the right that goes up and down."""
    return [(place, 1 + height * (place % 2)) for place in range(size)]


def spiral(rounds):
    """A ring that winds inwards to the left and comes back out between its own rounds, 8 points a round."""
    side = 8 * rounds + 8
    there = []
    back = []
    for step in range(0, 4 * rounds, 4):
        for way, by in ((there, step), (back, step + 2)):
            way += [(by - 4, by), (side - by, by), (side - by, side - by), (by, side - by)]
    return there + back[::-1]


class SimpleTest(unittest.TestCase):
    def check(self, ring, expected):
        """From whatever point on, both ways round, and however it's turned or mirrored."""
        for points in views(ring):
            for first in range(len(points) if len(points) < 20 else 1):
                again = points[first:] + points[:first]
                check_points_call(self, simple, again, [expected])
                check_points_call(self, simple, again[::-1], [expected])

    def check_most(self, ring, expected):
        """The same of 4096 points in some of the ways only, each soon enough."""
        self.assertEqual(len(ring), 4096)
        for points in (ring[::-1], ring[1234:] + ring[:1234], *views(ring)):
            numbers = flat(points)
            begun = time.process_time()
            answer = simple(4096, numbers)
            self.assertLess(time.process_time() - begun, LONGEST)
            self.assertEqual(answer, [expected])
        check_points_call(self, simple, ring, [expected])

    def check_by_pairs(self, ring):
        self.assertEqual(simple(len(ring), flat(ring)), [simple_by_pairs(ring)], ring)

    def check_untangling(self, ring, width):
        """All the rings on the way from a tangled one to a simple one, and that with each point moved a bit."""
        # Where corners touch, the same rings may come again and again, so it ends after some steps.
        for step in range(10 * len(ring)):
            last = ring
            self.check_by_pairs(ring)
            ring = less_tangled(ring)
            if ring is None:
                break
        self.assertEqual(simple(len(last), flat(stretched(last, width))), [simple_by_pairs(last)], last)
        for place, (x, y) in enumerate(last):
            for moved in ((x + 1, y), (x, y + 1), (x - 1, y - 1), (x + 2, y - 1)):
                self.check_by_pairs(last[:place] + [moved] + last[place + 1:])

    def test_refusals(self):
        check_refusals(self, simple)

    def test_plain_calls(self):
        self.assertEqual(simple(3, [0, 0, 4, 0, 0, 3]), [1])
        self.assertEqual(simple(4, [0, 0, 4, 4, 4, 0, 0, 4]), [0])
        self.assertEqual(simple(2, [0, 0, 4, 4]), [0])

    def test_one_point(self):
        for point in ((0, 0), (3, -4), (LOW, LOW), (HIGH, LOW)):
            self.check([point], 0)

    def test_two_points(self):
        for a, b in itertools.product(((0, 0), (3, -4), (3, 0), (0, -4), (LOW, HIGH), (HIGH, HIGH)), repeat=2):
            self.check([a, b], 0)

    def test_triangles(self):
        for ring in ([(0, 0), (4, 0), (0, 3)], [(0, 0), (1, 0), (0, 1)], [(-5, -7), (2, -6), (-4, 8)],
                     [(0, 0), (100, 1), (99, 1)], [(0, 0), (2, 5), (4, 0)]):
            self.check(ring, 1)

    def test_three_points_on_one_line(self):
        for x, y in ((1, 0), (0, 1), (1, 1), (2, -3)):
            for steps in itertools.permutations((0, 1, 5)):
                self.check([(x * step, y * step) for step in steps], 0)
        self.check([(LOW, LOW), (0, 0), (HIGH, HIGH)], 0)
        self.check([(LOW, HIGH), (HIGH, LOW), (-1, 0)], 0)

    def test_several_points_on_one_line(self):
        for steps in itertools.permutations((0, 1, 2, 4, 7)):
            self.check_by_pairs([(step, 3) for step in steps])
            self.assertEqual(simple(5, flat([(2 * step, step) for step in steps])), [0])
            self.assertEqual(simple(5, flat([(9, step) for step in steps])), [0])

    def test_squares(self):
        self.check(SQUARE, 1)
        self.check([(3, 0), (6, 3), (3, 6), (0, 3)], 1)
        self.check([(0, 0), (4, 1), (3, 5), (-1, 4)], 1)

    def test_points_on_straight_ways(self):
        self.check([(0, 0), (2, 0), (4, 0), (4, 4), (0, 4)], 1)
        self.check([(0, 0), (1, 0), (2, 0), (4, 0), (4, 1), (4, 4), (2, 4), (0, 4), (0, 3), (0, 1)], 1)
        self.check([(0, 0), (2, 1), (4, 2), (0, 4)], 1)
        self.check([(0, 0), (4, 0), (2, 2), (1, 3), (0, 4)], 1)

    def test_equal_points_alone(self):
        for point in ((0, 0), (-1, -1), (5, -7), (HIGH, LOW), (LOW, LOW), (HIGH, HIGH)):
            # Each edge is the point alone, and of three edges any two follow one another.
            self.check([point] * 3, 1)
            for size in (1, 2, 4, 5, 6, 7, 8, 9, 12, 50):
                self.check([point] * size, 0)
        self.check([(5, -7)] * 4096, 0)

    def test_two_equal_points_of_three(self):
        for a, b in (((0, 0), (4, 0)), ((0, 0), (3, 1)), ((2, 5), (2, 4)), ((LOW, HIGH), (HIGH, LOW))):
            self.check([a, a, b], 0)
            self.check([a, b, b], 0)

    def test_equal_points_next_to_each_other(self):
        for ring in ([(0, 0), (4, 0), (0, 3)], SQUARE, [(0, 0), (4, 0), (4, 4), (2, 1), (0, 4)], [(0, 0), (4, 0)]):
            for place in range(len(ring)):
                self.check(ring[:place] + [ring[place]] + ring[place:], 0)
                self.check(ring[:place] + [ring[place]] * 2 + ring[place:], 0)

    def test_equal_points_farther_apart(self):
        self.check([(0, 0), (4, 0), (0, 0), (0, 3)], 0)
        self.check([(0, 0), (4, 0), (4, 4), (0, 0), (-4, 0), (-4, -4)], 0)
        self.check([(0, 0), (2, 2), (4, 0), (6, 3), (4, 6), (2, 2), (0, 6)], 0)
        self.check(SQUARE + [(0, 0), (-3, 1), (-3, 3)], 0)
        self.check(SQUARE + SQUARE, 0)
        self.check(SQUARE + SQUARE[::-1], 0)
        self.check([(0, 0), (5, 0), (5, 5), (2, 5), (2, 3), (3, 3), (3, 5), (2, 5), (0, 5)], 0)

    def test_crossing_edges(self):
        self.check([(0, 0), (4, 4), (4, 0), (0, 4)], 0)
        self.check([(0, 0), (5, 4), (5, 1), (0, 3)], 0)
        self.check([(0, 10), (-6, -8), (10, 3), (-10, 3), (6, -8)], 0)
        self.check([(0, 0), (4, 0), (4, 4), (2, -1), (0, 4)], 0)
        self.check([(0, 0), (8, 0), (8, 8), (4, 8), (4, 4), (9, 4), (9, 6), (2, 6)], 0)

    def test_edges_that_cross_behind_a_corner(self):
        self.check([(0, 0), (20, 12), (20, -2), (0, 10), (4, 5)], 0)
        self.check([(0, 0), (20, 4), (20, 6), (0, 10), (4, 5)], 1)
        self.check([(0, 0), (20, 12), (20, -2), (0, 10), (4, 6), (2, 5), (3, 4)], 0)
        self.check([(0, 0), (20, 4), (20, 6), (0, 10), (4, 6), (2, 5), (3, 4)], 1)

    def test_edges_that_cross_behind_a_bend(self):
        self.check([(0, 0), (9, 0), (12, 6), (12, 9), (9, 3), (0, 3)], 1)
        self.check([(0, 0), (9, 0), (12, 6), (15, 6), (9, 3), (0, 3)], 0)
        self.check([(0, 0), (9, 0), (12, 6), (15, 9), (9, 3), (0, 3)], 0)
        self.check([(0, 0), (9, 0), (12, 6), (14, 9), (9, 3), (0, 3)], 1)

    def test_a_corner_that_touches_an_edge(self):
        for y, expected in ((1, 1), (0, 0), (-1, 0)):
            self.check([(0, 0), (4, 0), (4, 4), (2, y), (0, 4)], expected)
            self.check([(0, 0), (4, 0), (4, 4), (3, 4), (3, y), (1, y), (1, 4), (0, 4)], expected)
        for x, y, expected in ((2, 1, 0), (4, 2, 0), (2, 2, 1), (4, 3, 1), (4, 1, 0)):
            self.check([(0, 0), (6, 3), (6, 9), (x, y), (0, 9)], expected)

    def test_corners_that_touch_from_outside(self):
        for x, expected in ((4, 0), (5, 1)):
            self.check([(0, 0), (4, 0), (4, 4), (8, 4), (x, 2), (8, 0), (9, 0), (9, 5), (0, 5)], expected)
        self.check([(0, 0), (4, 0), (4, 2), (2, 4), (4, 6), (4, 8), (0, 8), (0, 4), (2, 3), (0, 2)], 1)
        self.check([(0, 0), (4, 0), (4, 2), (2, 4), (4, 6), (4, 8), (0, 8), (0, 6), (2, 4), (0, 2)], 0)

    def test_an_edge_along_another(self):
        for y, expected in ((1, 1), (0, 0)):
            self.check([(0, 0), (8, 0), (8, 4), (6, 4), (6, y), (2, y), (2, 4), (0, 4)], expected)
            self.check([(0, 0), (8, 0), (8, 4), (6, 4), (6, y), (0, y), (-1, 4)], expected)
            self.check([(0, 0), (8, 0), (8, 4), (9, 4), (9, y), (2, y), (2, 4), (0, 4)], 0)
        self.check([(0, 0), (6, 3), (6, 9), (4, 9), (4, 2), (2, 1), (2, 9), (0, 9)], 0)
        self.check([(0, 0), (6, 3), (6, 9), (4, 9), (4, 3), (2, 2), (2, 9), (0, 9)], 1)

    def test_an_edge_that_goes_back(self):
        for y, expected in ((0, 0), (1, 1)):
            self.check([(0, 0), (4, 0), (2, y), (2, 3)], expected)
            self.check([(0, 0), (4, 0), (-2, y), (-2, 5)], 0)
            self.check([(0, 0), (4, 0), (1, y), (0, 5)], expected)
        self.check([(0, 0), (4, 0), (4, 4), (4, 2), (0, 4)], 0)
        self.check([(0, 0), (6, 3), (4, 2), (0, 5)], 0)
        self.check([(0, 0), (6, 3), (-2, -1), (0, 5)], 0)
        self.check(SQUARE + [(0, 2), (0, 6), (-3, 3)], 0)

    def test_a_spike(self):
        self.check([(0, 0), (4, 0), (4, 2), (8, 2), (4, 2), (4, 4), (0, 4)], 0)
        self.check([(0, 0), (4, 0), (4, 2), (8, 2), (4, 3), (4, 4), (0, 4)], 1)
        self.check([(0, 0), (4, 0), (4, 2), (8, 2), (5, 2), (4, 4), (0, 4)], 0)
        self.check([(0, 0), (4, 0), (4, 2), (8, 2), (2, 2), (2, 4), (0, 4)], 0)

    def test_last_edge(self):
        self.assertEqual(simple(4, [2, 0, 4, 0, 4, 4, 0, 0]), [1])
        self.assertEqual(simple(4, [2, 0, 0, 0, 4, 4, 4, 0]), [1])
        self.assertEqual(simple(4, [2, 0, 4, 0, 4, 4, 6, 0]), [0])
        self.assertEqual(simple(4, [0, 0, 4, 0, 2, 3, 2, 0]), [0])
        self.assertEqual(simple(4, [4, 0, 0, 0, 2, 4, 2, -4]), [0])
        self.assertEqual(simple(5, [0, 0, 4, 0, 4, 4, 2, -1, 0, 4]), [0])
        self.assertEqual(simple(5, [0, 4, 0, 0, 4, 0, 4, 4, 2, -1]), [0])
        self.assertEqual(simple(5, [2, -1, 0, 4, 0, 0, 4, 0, 4, 4]), [0])

    def test_points_on_the_line_of_an_edge(self):
        self.check([(0, 0), (2, 0), (3, 3), (4, 0), (6, 0), (6, 5), (0, 5)], 1)
        self.check([(0, 0), (6, 0), (6, 2), (4, 2), (4, 4), (2, 4), (2, 6), (0, 6)], 1)
        self.check([(2, 0), (4, 0), (4, 2), (6, 2), (6, 4), (4, 4), (4, 6), (2, 6), (2, 4), (0, 4), (0, 2), (2, 2)], 1)
        self.check([(0, 0), (2, 1), (3, 0), (4, 2), (8, 4), (0, 9)], 1)

    def test_dented_rings(self):
        self.check([(0, 0), (8, 0), (8, 8), (4, 2), (0, 8)], 1)
        self.check([(0, 0), (3, 0), (3, 1), (1, 1), (1, 3), (0, 3)], 1)
        self.check(teeth(9, 7) + [(9, 0), (-1, 0)], 1)
        for rounds in (1, 2, 3, 5, 10):
            self.check(spiral(rounds), 1)

    def test_the_whole_range(self):
        square = [(LOW, LOW), (HIGH, LOW), (HIGH, HIGH), (LOW, HIGH)]
        self.check(square, 1)
        self.check(square[:3], 1)
        self.check([square[place] for place in (0, 2, 1, 3)], 0)
        self.check(square + [(LOW, 0)], 1)
        self.check(square + [(HIGH - 1, 0)], 1)
        self.check(square + [(HIGH, 0)], 0)
        self.check([(LOW, LOW), (HIGH, HIGH - 1), (HIGH - 1, HIGH - 2)], 1)

    def test_corners_close_to_an_edge_at_the_ends_of_the_range(self):
        for middle, expected in (((0, 0), 0), ((0, 1), 1), ((1, 0), 0), ((-1, 0), 1)):
            self.check([(LOW, LOW), (HIGH, HIGH), (HIGH - 1, HIGH), middle, (LOW, HIGH)], expected)
        for middle, expected in (((0, 0), 1), ((0, -1), 0), ((HIGH - 1, HIGH - 2), 0), ((HIGH - 1, HIGH - 1), 1)):
            self.check([(LOW, LOW), (HIGH, HIGH - 1), (HIGH, HIGH), middle, (LOW, HIGH)], expected)

    def test_turns_that_vanish_in_fewer_bits(self):
        for bits in (16, 31, 32, 53, 61):
            far = 1 << bits
            ring = [(0, 0), (2 * far, 0), (2 * far, 2 * far), (far, 1), (0, 2 * far)]
            self.check(ring, 1)
            self.check(ring[:3] + [(far, 0)] + ring[4:], 0)
            self.check(ring[:3] + [(far, -1)] + ring[4:], 0)

    def test_all_rings_of_a_small_grid(self):
        points = list(itertools.product(range(3), repeat=2))
        for size in (1, 2, 3, 4):
            for ring in itertools.product(points, repeat=size):
                self.check_by_pairs(list(ring))

    def test_all_rings_of_different_points_of_a_small_grid(self):
        points = list(itertools.product(range(3), repeat=2))
        for ring in itertools.permutations(points, 5):
            self.check_by_pairs(list(ring))
        for ring in itertools.permutations(points, 6):
            # From its first point in the order of the pairs on, each ring comes once, and once backwards.
            if ring[0] == min(ring):
                self.check_by_pairs(list(ring))

    def test_all_rings_of_the_middle_and_the_ends(self):
        points = list(itertools.product((LOW, 0, HIGH), (LOW, HIGH - 1, HIGH)))
        for ring in itertools.permutations(points, 4):
            self.check_by_pairs(list(ring))
        for ring in itertools.permutations(points, 5):
            if ring[0] == max(ring):
                self.check_by_pairs(list(ring))

    def test_untangled_rings(self):
        for size in range(4, 13):
            for width in (4, 5, 7):
                for seed in range(8):
                    self.check_untangling(scattered(size, width, 1000 * size + 10 * width + seed), width)

    def test_untangled_rings_of_many_points(self):
        for seed in range(3):
            self.check_untangling(scattered(30, 9, seed), 9)

    def test_every_number_of_points_to_a_hundred(self):
        for size in range(4, 101):
            bow = [(place, place * place) for place in range(size)]
            self.assertEqual(simple(size, flat(bow)), [1])
            for place in (0, size // 2 - 1, size - 2):
                changed = bow[:place] + [bow[place + 1], bow[place]] + bow[place + 2:]
                self.assertEqual(simple(size, flat(changed)), [0])

    def test_most_points_of_a_bow(self):
        bow = [(place - 2048, place * place) for place in range(4096)]
        self.check_most(bow, 1)
        # Of two neighbours that change places just the edge to the one and the edge from the other meet.
        for place in (0, 1, 2047, 4094):
            self.check_most(bow[:place] + [bow[place + 1], bow[place]] + bow[place + 2:], 0)

    def test_most_points_of_long_teeth(self):
        for height in (5, 1 << 60):
            self.check_most(teeth(4094, height) + [(4094, 0), (-1, 0)], 1)
            self.check_most(teeth(4094, height) + [(4094, 1), (-1, 0)], 1)
            # The way back turns at its left end and comes through itself: just these two edges meet.
            self.check_most(teeth(4091, height) + [(4091, 0), (5, -1), (8, -9), (8, 0), (-1, 0)], 0)
            self.check_most(teeth(4091, height) + [(4091, 0), (5, -1), (4, -9), (3, -9), (-1, 0)], 1)
            for place in (0, 2000, 4092):
                ring = teeth(4094, height) + [(4094, 0), (-1, 0)]
                ring[place] = (place, 0)
                self.check_most(ring, 0)

    def test_most_points_of_a_spiral(self):
        ring = spiral(512)
        self.check_most(ring, 1)
        inmost = ring[2047]
        for by, expected in ((1, 1), (2, 0), (4, 0), (-1, 1)):
            self.check_most(ring[:2047] + [(inmost[0] - by, inmost[1])] + ring[2048:], expected)

    def test_most_points_of_a_step_by_step_way(self):
        stairs = [(place // 2 * 2, (place + 1) // 2 * 2) for place in range(2048)]
        for x, y, expected in ((1, -1, 1), (2, -1, 1), (1, 0, 0), (2, 0, 0), (2, 1, 0)):
            lower = [(a + x, b + y) for a, b in stairs]
            self.check_most(stairs + lower[::-1], expected)

    def test_most_points_of_a_full_grid(self):
        to_and_fro = [(x, 64 - y if x % 2 else y) for x in range(64) for y in range(1, 64)]
        base = [(x, 0) for x in range(64)]
        self.check_most(base[:1] + to_and_fro + base[:0:-1], 1)
        self.check_most(base[:1] + to_and_fro + base[1:], 0)

    def test_most_points_that_are_equal_or_on_one_line(self):
        self.check_most([(3, 4)] * 4096, 0)
        self.check_most([(place, 2 * place) for place in range(4096)], 0)
        self.check_most(SQUARE * 1024, 0)
        grid = list(itertools.product(range(64), repeat=2))
        self.check_most(grid, 0)

    def test_most_points_without_deep_calls(self):
        for ring in ([(place, place * place) for place in range(4096)], [(y, x) for x, y in spiral(512)]):
            handed = flat(ring)
            self.assertEqual(with_few_calls_left(lambda: simple(4096, handed)), [1])

    def test_nothing_is_kept(self):
        for other in ((1, [5, 5]), (0, []), (4, [0, 0, 4, 4, 4, 0, 0, 4]), (3, [9, 9, -9, 9, 0, 30])):
            simple(*other)
            within(*other, [1, 1])
            self.assertEqual(simple(4, flat(SQUARE)), [1])
            self.assertEqual(simple(4, [0, 0, 4, 4, 4, 0, 0, 4]), [0])


if __name__ == "__main__":
    unittest.main()
