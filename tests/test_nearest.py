"""Promise 7: nearest answers the places of the two points that are nearest to each other, and the square between."""

import itertools
import time
import unittest

from exactplane.plane import around, nearest
from handed_in import (HIGH, LOW, check_call, check_points_call, check_refusals, flat, scattered, views,
                       with_few_calls_left)

# Seconds. A twentieth of one is enough; looking at every two of 4096 points takes about five.
LONGEST = 2
WIDTH = HIGH - LOW


def nearest_by_pairs(points):
    """What nearest must answer, by looking at every two points."""
    pairs = itertools.combinations(range(len(points)), 2)
    found = min(((points[i][0] - points[j][0]) ** 2 + (points[i][1] - points[j][1]) ** 2, i, j) for i, j in pairs)
    return [0, found[1], found[2], found[0]]


def first_neighbours(points):
    """The places of the two points next to each other on a grid that nearest must answer."""
    places = {point: place for place, point in enumerate(points)}
    for i, (x, y) in enumerate(points):
        around_it = ((x + 1, y), (x - 1, y), (x, y + 1), (x, y - 1))
        later = [places[point] for point in around_it if places.get(point, -1) > i]
        if later:
            return i, min(later)


def spread(points, width):
    """The points of a square, all over the range of coordinates."""
    step = WIDTH // (width - 1)
    return [(LOW + step * x, HIGH - step * y) for x, y in points]


class NearestTest(unittest.TestCase):
    def check(self, points, i, j, square):
        """However the points are turned or mirrored: the places stay, and so does the distance."""
        for turned in views(points):
            check_points_call(self, nearest, turned, [0, i, j, square])

    def check_by_pairs(self, points):
        self.assertEqual(nearest(len(points), flat(points)), nearest_by_pairs(points), points)

    def check_most(self, points, i, j, square):
        """The same of 4096 points, each answer soon enough."""
        self.assertEqual(len(points), 4096)
        for turned in views(points):
            numbers = flat(turned)
            begun = time.process_time()
            answer = nearest(4096, numbers)
            self.assertLess(time.process_time() - begun, LONGEST)
            self.assertEqual(answer, [0, i, j, square])
        check_points_call(self, nearest, points, [0, i, j, square])

    def test_refusals(self):
        check_refusals(self, nearest)
        check_call(self, lambda numbers: nearest(1, numbers), [], [-2])

    def test_plain_calls(self):
        self.assertEqual(nearest(2, [0, 0, 3, 4]), [0, 0, 1, 25])
        self.assertEqual(nearest(3, [0, 0, 5, 5, 1, 2]), [0, 0, 2, 5])
        self.assertEqual(nearest(4, [9, 9, 0, 0, 20, 1, 2, 1]), [0, 1, 3, 5])

    def test_two_points(self):
        for a, b, square in (((0, 0), (1, 0), 1), ((0, 0), (0, 1), 1), ((0, 0), (1, 1), 2), ((3, -4), (-2, 8), 169),
                             ((5, 5), (5, -5), 100), ((-7, 0), (0, 0), 49), ((0, 0), (100, 1), 10001)):
            self.check([a, b], 0, 1, square)
            self.check([b, a], 0, 1, square)

    def test_two_equal_points(self):
        for point in ((0, 0), (3, -4), (-1, -1), (LOW, LOW), (HIGH, LOW), (HIGH, HIGH)):
            self.check([point, point], 0, 1, 0)

    def test_three_points(self):
        self.check([(0, 0), (1, 0), (5, 5)], 0, 1, 1)
        self.check([(0, 0), (5, 5), (1, 0)], 0, 2, 1)
        self.check([(5, 5), (0, 0), (1, 0)], 1, 2, 1)
        self.check([(0, 0), (3, 0), (5, 0)], 1, 2, 4)
        self.check([(0, 0), (2, 0), (5, 0)], 0, 1, 4)
        self.check([(0, 0), (5, 0), (2, 0)], 0, 2, 4)

    def test_equal_points_among_others(self):
        others = [(1, 0), (0, 1), (7, 7), (8, 7), (-3, 2)]
        for i, j in itertools.combinations(range(7), 2):
            points = others[:]
            points.insert(i, (4, 4))
            points.insert(j, (4, 4))
            self.check(points, i, j, 0)

    def test_three_or_more_equal_points(self):
        a, b, c = (2, 3), (2, 4), (3, 3)
        self.check([a, a, a], 0, 1, 0)
        self.check([b, a, a, a], 1, 2, 0)
        self.check([a, b, a, a], 0, 2, 0)
        self.check([a, b, c, a, a], 0, 3, 0)
        self.check([b, a, c, a, a, a], 1, 3, 0)
        self.check([c, b, a, a, a, a, a], 2, 3, 0)
        self.check([c, b, (9, 9), a, (8, 9), a, a, (9, 8), a], 3, 5, 0)

    def test_several_pairs_of_equal_points(self):
        a, b, c = (2, 3), (2, 4), (-3, 3)
        for first, second in ((a, b), (b, a), (a, c), (c, a)):
            self.check([first, first, second, second], 0, 1, 0)
            self.check([first, second, second, first], 0, 3, 0)
            self.check([first, second, first, second], 0, 2, 0)
            self.check([(5, 5), first, second, second, first, first], 1, 4, 0)
            self.check([(5, 5), first, second, second, second, first], 1, 5, 0)
            self.check([(5, 5), (6, 5), second, first, first, (5, 6), second], 2, 6, 0)
        self.check([a, b, c, c, b, a], 0, 5, 0)
        self.check([c, b, a, a, b, (0, 0)], 1, 4, 0)
        self.check([(0, 0), b, a, c, a, c, b], 1, 6, 0)

    def test_equal_points_at_the_ends_of_the_range(self):
        low, high = (LOW, LOW), (HIGH, HIGH)
        self.check([low, high, low], 0, 2, 0)
        self.check([low, high, high, (LOW + 1, LOW), low], 0, 4, 0)
        self.check([(LOW + 1, LOW), high, low, low, high], 1, 4, 0)

    def test_several_pairs_just_as_near(self):
        # The pair that is met first, on whatever way over the points, is the one that isn't asked.
        for far in (5, 1000, 1 << 60):
            pairs = [((0, 0), (1, 2)), ((far, 0), (far + 2, 1)), ((2 * far, far), (2 * far - 1, far + 2)),
                     ((0, 3 * far), (2, 3 * far + 1))]
            for first, second, third, fourth in itertools.permutations(pairs):
                self.check([*first, *second, *third, *fourth], 0, 1, 5)
                self.check([first[0], *second, *third, *fourth, first[1]], 0, 7, 5)
                self.check([first[0], second[0], second[1], first[1]], 0, 3, 5)
                self.check([first[0], second[0], first[1], second[1]], 0, 2, 5)
                self.check([(-9 * far, 0), third[0], *second, *fourth, third[1], *first], 1, 6, 5)

    def test_the_smallest_second_place(self):
        # Four points at the same distance from the one in the middle, and nothing nearer.
        tips = [(5, 0), (0, 5), (-5, 0), (0, -5)]
        for order in itertools.permutations(tips):
            self.check([(0, 0), *order], 0, 1, 25)
            self.check([order[0], (0, 0), *order[1:]], 0, 1, 25)
            self.check([order[0], order[1], (0, 0), order[2], order[3]], 0, 2, 25)
            self.check([*order, (0, 0)], 0, 4, 25)
            self.check([(50, 50), (0, 0), (40, -40), *order], 1, 3, 25)
        for order in itertools.permutations([(3, 4), (-4, 3), (5, 0), (-3, -4)]):
            self.check([(90, 1), (0, 0), (70, -9), *order], *nearest_by_pairs([(90, 1), (0, 0), (70, -9), *order])[1:])

    def test_places_of_the_nearest_two(self):
        others = [(10 * place, 7 * (place * place % 11)) for place in range(12)]
        for i, j in itertools.combinations(range(14), 2):
            points = others[:]
            points.insert(i, (56, 200))
            points.insert(j, (55, 198))
            self.check(points, i, j, 5)

    def test_points_on_one_line(self):
        for x, y in ((1, 0), (0, 1), (1, 1), (2, -3), (-5, 4), (1 << 40, 3)):
            square = x * x + y * y
            for steps, i, j, between in (((0, 1, 3), 0, 1, 1), ((0, 3, 1), 0, 2, 1), ((3, 0, 5, 9), 0, 2, 2),
                                         ((0, 4, 8, 12, 16), 0, 1, 4), ((16, 12, 8, 4, 0), 0, 1, 4),
                                         ((8, 0, 16, 4, 12), 0, 3, 4), ((0, 8, 16, 12, 4), 0, 4, 4),
                                         ((20, 11, 0, 13, 6, 27), 1, 3, 2), ((0, 10, 21, 33, 43), 0, 1, 10),
                                         ((0, 11, 22, 33, 43), 3, 4, 10), ((7, 7, 0, 0), 0, 1, 0)):
                self.check([(x * step, y * step) for step in steps], i, j, square * between * between)

    def test_neighbours_in_one_order_are_far_apart(self):
        # In the order of x and in that of y alike, neighbours aren't the nearest.
        points = [(0, 0), (1, 1000), (2, 4), (3, 2000), (4, -1000), (1003, 3), (-2000, 2), (-1000, 1)]
        self.check(points, 0, 2, 20)
        self.check(points[::-1], 5, 7, 20)

    def test_near_across_but_far_up(self):
        points = [(place, 100 * place * (-1) ** place) for place in range(9)]
        self.check(points + [(4, 461)], 4, 9, 61 * 61)
        self.check([(4, 461)] + points, 0, 5, 61 * 61)
        self.check(points + [(9, 899)], 8, 9, 99 * 99 + 1)
        self.check(points + [(9, 900), (9, 999)], 9, 10, 99 * 99)

    def test_the_whole_range(self):
        self.check([(LOW, LOW), (HIGH, HIGH)], 0, 1, 2 * WIDTH * WIDTH)
        self.check([(LOW, LOW), (HIGH, LOW)], 0, 1, WIDTH * WIDTH)
        corners = [(LOW, LOW), (HIGH, HIGH), (LOW, HIGH), (HIGH, LOW)]
        self.check(corners, 0, 2, WIDTH * WIDTH)
        self.check(corners[1:], 0, 1, WIDTH * WIDTH)
        self.check(corners + [(0, 0)], 1, 4, 2 * HIGH * HIGH)
        self.check(corners + [(-1, -1)], 0, 4, 2 * HIGH * HIGH)
        self.check(corners + [(HIGH, HIGH - 1), (LOW + 1, LOW)], 0, 5, 1)
        self.assertEqual(nearest(2, [LOW, LOW, HIGH, HIGH]), [0, 0, 1, 680564733841876926852962238568698216450])

    def test_squares_that_differ_by_little(self):
        for bits in (16, 26, 27, 31, 32, 53, 60):
            far = 1 << bits
            points = [(0, 0), (far, 1), (2 * far, 2), (3 * far, 2)]
            self.check(points, 2, 3, far * far)
            self.check(points[:3] + [(3 * far, 3)], 0, 1, far * far + 1)
            self.check([(0, 0), (far, 0), (far, far), (1, far)], 2, 3, (far - 1) ** 2)
            self.check([(0, 0), (far, 0), (far, far), (0, far)], 0, 1, far * far)
        self.check([(LOW, LOW), (HIGH, LOW), (LOW, HIGH), (HIGH, HIGH - 1)], 1, 3, (WIDTH - 1) ** 2)
        self.check([(LOW, LOW), (HIGH, LOW + 1), (LOW, HIGH), (HIGH, HIGH)], 1, 3, (WIDTH - 1) ** 2)
        self.check([(LOW, LOW), (HIGH, LOW + 1), (LOW + 1, HIGH)], 0, 1, WIDTH * WIDTH + 1)

    def test_squares_that_are_the_same_in_fewer_bits(self):
        for bits in (32, 63, 64, 65, 128):
            # The larger distance's square, cut off at so many bits, would be the smaller one.
            root = 1 << (bits + 1) // 2
            if root < HIGH:
                self.check([(0, 0), (root, 0), (root, 3)], 1, 2, 9)
                self.check([(0, 0), (-root, 0), (-root, 3), (0, 2)], 0, 3, 4)
        self.check([(0, 0), (1 << 32, 0), (1 << 31, 5)], 0, 2, (1 << 62) + 25)

    def test_a_square_of_points(self):
        for size in (2, 3, 4, 5):
            points = list(itertools.product(range(size), repeat=2))
            self.check(points, 0, 1, 1)
            self.check([(3 * x, 3 * y) for x, y in points[::-1]], 0, 1, 9)
            by_diagonals = sorted(points, key=lambda point: (point[0] + point[1], point[0]))
            self.check(by_diagonals, 0, 1, 1)
            squares_first = sorted(points, key=lambda point: ((point[0] + point[1]) % 2, point))
            self.check(squares_first, *nearest_by_pairs(squares_first)[1:])

    def test_all_choices_of_a_small_grid(self):
        points = list(itertools.product(range(3), repeat=2))
        for size in (2, 3, 4):
            for chosen in itertools.product(points, repeat=size):
                self.check_by_pairs(list(chosen))
        for chosen in itertools.permutations(points, 5):
            self.check_by_pairs(list(chosen))

    def test_all_choices_of_a_wide_grid(self):
        points = list(itertools.product((0, 2, 7), (0, 3, 5)))
        for size in (3, 4, 5):
            for chosen in itertools.permutations(points, size):
                self.check_by_pairs(list(chosen))

    def test_all_choices_of_the_middle_and_the_ends(self):
        points = list(itertools.product((LOW, 0, HIGH), (LOW, -1, HIGH)))
        for size in (2, 3, 4):
            for chosen in itertools.product(points, repeat=size):
                self.check_by_pairs(list(chosen))

    def test_scattered_points(self):
        for size in (5, 8, 13, 21, 40):
            for width in (7, 9, 20, 50):
                for seed in range(20):
                    points = scattered(size, width, 1000 * size + 20 * width + seed)
                    self.check_by_pairs(points)
                    self.check_by_pairs(spread(points, width))
                    self.check_by_pairs([(x, 1 << y) for x, y in points])

    def test_scattered_points_on_few_lines(self):
        for seed in range(100):
            points = scattered(30, 12, seed)
            self.check_by_pairs([(x * 1000, y * y * y) for x, y in points])
            self.check_by_pairs([(x * x * x, y * 1000) for x, y in points])
            self.check_by_pairs([(x + y, 50 * (x - y)) for x, y in points])

    def test_every_number_of_points_to_a_hundred(self):
        for size in range(2, 101):
            # The gaps shrink by one from point to point, so the last two are the nearest.
            points = [(-place * (place - 1) // 2 + place * size, 0) for place in range(size)]
            gap = points[-1][0] - points[-2][0]
            self.check(points, size - 2, size - 1, gap * gap)
            self.check(points[::-1], 0, 1, gap * gap)
            self.check([(x, x) for x, y in points], size - 2, size - 1, 2 * gap * gap)
            self.check([(3, 4)] * size, 0, 1, 0)

    def test_most_points_that_are_equal(self):
        self.check_most([(3, 4)] * 4096, 0, 1, 0)
        self.check_most([(place, 0) for place in range(4095)] + [(0, 0)], 0, 4095, 0)
        self.check_most([(place // 2, 7) for place in range(4096)], 0, 1, 0)
        halves = [(place, place * place) for place in range(2048)]
        self.check_most(halves + halves, 0, 2048, 0)
        self.check_most(halves + halves[::-1], 0, 4095, 0)
        self.check_most([(-5, 9), *halves[1:], *halves[:0:-1], (9, -5)], 1, 4094, 0)

    def test_most_points_on_one_line(self):
        for x, y in ((1, 0), (3, -2), (1 << 50, -1 << 49)):
            line = [(x * place, y * place) for place in range(4096)]
            square = x * x + y * y
            self.check_most(line, 0, 1, square)
            self.check_most(line[::2] + line[1::2], 0, 2048, square)
            self.check_most(line[2048:] + line[:2048], 0, 1, square)
            self.check_most([line[0]] + line[4095:1:-1] + [line[1]], 0, 4095, square)

    def test_most_points_of_a_grid(self):
        grid = list(itertools.product(range(64), repeat=2))
        self.check_most(grid, 0, 1, 1)
        # Every second point ahead, as on a chessboard: the first point's neighbours are all behind.
        board = sorted(grid, key=lambda point: (point[0] + point[1]) % 2)
        self.check_most(board, 0, 2048, 1)
        wide = spread(grid, 64)
        self.check_most(wide, 0, 1, (WIDTH // 63) ** 2)
        self.check_most([(x, 3 * y) for x, y in grid], 0, 64, 1)

    def test_most_points_with_one_nearest_pair(self):
        grid = [(10 * x, 10 * y) for x, y in itertools.product(range(64), repeat=2)]
        for i, j in ((0, 4095), (0, 1), (4094, 4095), (2047, 2048), (1, 3000), (63, 64)):
            points = grid[:]
            points[j] = (points[i][0] + 4, points[i][1] + 5)
            self.check_most(points, i, j, 41)

    def test_most_points_that_come_nearer_and_nearer(self):
        # Each next point is nearer than all before, or farther: what is kept on the way shrinks, or never does.
        gaps = [1 << 50]
        for place in range(4094):
            gaps.append(gaps[-1] - 3)
        line = list(itertools.accumulate(gaps, initial=0))
        self.check_most([(x, 0) for x in line], 4094, 4095, gaps[-1] ** 2)
        self.check_most([(-x, 0) for x in line], 4094, 4095, gaps[-1] ** 2)
        self.check_most([(x, x) for x in line[::-1]], 0, 1, 2 * gaps[-1] ** 2)

    def test_most_points_in_two_columns(self):
        columns = [(1000000 * (place % 2), 3 * (place // 2)) for place in range(4096)]
        self.check_most(columns, 0, 2, 9)
        self.check_most(columns[::-1], 0, 2, 9)
        columns[4095] = (999999, 3 * 2046 + 2)
        self.check_most(columns, 4093, 4095, 5)

    def test_most_points_scattered(self):
        for width in (65, 70, 90):
            points = scattered(4096, width, width)
            i, j = first_neighbours(points)
            self.check_most(points, i, j, 1)
            self.check_most(spread(points, width), i, j, (WIDTH // (width - 1)) ** 2)

    def test_most_points_without_deep_calls(self):
        for points in ([(place, place * place) for place in range(4096)], [(7, 7)] * 4096):
            handed = flat(points)
            self.assertEqual(with_few_calls_left(lambda: nearest(4096, handed))[:3], [0, 0, 1])

    def test_nothing_is_kept(self):
        for n, p in ((1, []), (0, []), (2, [5, 5, 5, 5]), (3, [0, 0, 1, 0, 9, 9])):
            nearest(n, p)
            around(len(p) // 2, [1, 1], p)
            self.assertEqual(nearest(3, [0, 0, 5, 5, 1, 2]), [0, 0, 2, 5])
            self.assertEqual(nearest(2, [0, 0, 3, 4]), [0, 0, 1, 25])


if __name__ == "__main__":
    unittest.main()
