"""Promise 2: meet answers how the segments ab and cd meet."""

import itertools
import unittest

from exactplane.plane import meet
from handed_in import HIGH, LOW, check_call, meet_by_fractions


class MeetTest(unittest.TestCase):
    def check(self, abcd, expected):
        """In all orders of the two segments and of their ends."""
        a, b, c, d = abcd[0:2], abcd[2:4], abcd[4:6], abcd[6:8]
        for p, q in ((a, b), (b, a)):
            for r, s in ((c, d), (d, c)):
                check_call(self, meet, p + q + r + s, [expected])
                check_call(self, meet, r + s + p + q, [expected])

    def check_all(self, xs, ys):
        points = list(itertools.product(xs, ys))
        for a, b, c, d in itertools.product(points, repeat=4):
            self.assertEqual(meet([*a, *b, *c, *d]), [meet_by_fractions(a, b, c, d)], (a, b, c, d))

    def test_cross_within_both(self):
        self.check([0, 0, 4, 4, 0, 4, 4, 0], 1)
        self.check([-3, 0, 5, 0, 1, -2, 1, 9], 1)

    def test_cross_at_a_point_with_fractions(self):
        self.check([0, 0, 1, 1, 0, 1, 1, 0], 1)
        self.check([0, 0, 3, 1, 1, 1, 2, 0], 1)
        self.check([0, 0, 7, 5, 1, 1, 2, 1], 1)

    def test_apart(self):
        self.check([0, 0, 4, 4, 3, 0, 9, 1], 0)
        self.check([0, 0, 1, 0, 2, -1, 2, 1], 0)
        self.check([0, 0, 2, 0, 3, 1, 4, -5], 0)

    def test_touch_at_an_end_of_one(self):
        self.check([0, 0, 4, 0, 2, 0, 2, 5], 2)
        self.check([0, 0, 6, 4, 3, 2, -7, 30], 2)

    def test_touch_at_an_end_of_both(self):
        self.check([0, 0, 4, 0, 4, 0, 4, 5], 2)
        self.check([1, 1, 3, 2, 1, 1, 2, 3], 2)

    def test_an_end_on_the_other_line_but_not_in_the_other(self):
        self.check([0, 0, 4, 0, 5, 0, 5, 5], 0)
        self.check([0, 0, 4, 4, -1, -1, -1, 3], 0)

    def test_one_line_apart(self):
        self.check([0, 0, 1, 2, 2, 4, 3, 6], 0)
        self.check([0, 0, 0, 3, 0, 4, 0, 9], 0)
        self.check([0, 0, 3, 0, 4, 0, 9, 0], 0)
        self.check([0, 0, 1, -2, 2, -4, 3, -6], 0)

    def test_one_line_touch(self):
        self.check([0, 0, 1, 2, 1, 2, 3, 6], 2)
        self.check([0, 0, 0, 3, 0, 3, 0, 9], 2)
        self.check([0, 0, 3, 0, 3, 0, 9, 0], 2)
        self.check([0, 0, 1, -2, 1, -2, 3, -6], 2)

    def test_one_line_overlap(self):
        self.check([0, 0, 2, 4, 1, 2, 3, 6], 3)
        self.check([0, 0, 0, 5, 0, 4, 0, 9], 3)
        self.check([0, 0, 5, 0, 4, 0, 9, 0], 3)
        self.check([0, 0, 9, -9, 2, -2, 5, -5], 3)
        self.check([0, 0, 9, 0, 0, 0, 5, 0], 3)

    def test_overlap_between_whole_points(self):
        self.check([0, 0, 1, 0, 0, 0, 1, 0], 3)
        self.check([0, 0, 2, 1, -2, -1, 2, 1], 3)

    def test_the_same_segment(self):
        self.check([0, 0, 3, 7, 0, 0, 3, 7], 3)
        self.check([2, -1, 2, 8, 2, -1, 2, 8], 3)

    def test_one_segment_is_a_point(self):
        self.check([2, 2, 2, 2, 0, 0, 4, 4], 2)
        self.check([0, 0, 0, 0, 0, 0, 4, 4], 2)
        self.check([5, 5, 5, 5, 0, 0, 4, 4], 0)
        self.check([2, 3, 2, 3, 0, 0, 4, 4], 0)
        self.check([0, 9, 0, 9, 0, 0, 0, 4], 0)

    def test_both_segments_are_points(self):
        self.check([2, 3, 2, 3, 2, 3, 2, 3], 2)
        self.check([2, 3, 2, 3, 2, 4, 2, 4], 0)
        self.check([2, 3, 2, 3, 1, 3, 1, 3], 0)
        self.check([2, 3, 2, 3, 3, 2, 3, 2], 0)

    def test_parallel(self):
        self.check([0, 0, 4, 2, 0, 1, 4, 3], 0)
        self.check([0, 0, 4, 0, 0, 1, 4, 1], 0)
        self.check([0, 0, 0, 4, 1, 0, 1, 4], 0)

    def test_diagonals_of_the_range(self):
        self.check([LOW, LOW, HIGH, HIGH, LOW, HIGH, HIGH, LOW], 1)
        self.check([LOW, LOW, HIGH, HIGH, 0, 0, HIGH, LOW], 2)
        self.check([LOW, LOW, HIGH, HIGH, 1, 0, HIGH, LOW], 0)
        self.check([LOW, LOW, HIGH, HIGH, 0, 1, HIGH, LOW], 1)
        self.check([LOW, LOW, HIGH, HIGH, LOW, LOW, HIGH, HIGH], 3)
        self.check([LOW, LOW, 0, 0, 0, 0, HIGH, HIGH], 2)
        self.check([LOW, LOW, 0, 0, 1, 1, HIGH, HIGH], 0)
        self.check([LOW, LOW, 1, 1, 0, 0, HIGH, HIGH], 3)

    def test_missed_by_a_turn_of_one(self):
        near = [HIGH - 1, HIGH - 2]
        self.check([LOW, LOW, HIGH, HIGH - 1] + near + near, 0)
        self.check([LOW, LOW, HIGH, HIGH - 1] + near + [HIGH, LOW], 0)
        self.check([LOW, LOW, HIGH, HIGH - 1] + near + [LOW, HIGH], 1)

    def test_points_at_the_ends_of_the_range(self):
        self.check([LOW, HIGH, LOW, HIGH, LOW, HIGH, LOW, HIGH], 2)
        self.check([LOW, HIGH, LOW, HIGH, HIGH, LOW, HIGH, LOW], 0)
        self.check([HIGH, HIGH, HIGH, HIGH, LOW, LOW, HIGH, HIGH], 2)

    def test_turns_that_vanish_in_64_bits(self):
        far = 1 << 32
        self.check([0, 0, far, 0, 0, far, far, far], 0)
        self.check([0, 0, far, 0, far, far, far, 2 * far], 0)

    def test_all_segments_of_a_small_grid(self):
        self.check_all((0, 1, 2, 3), (0, 1, 2))

    def test_all_segments_of_the_middle_and_the_ends(self):
        self.check_all((LOW, 0, HIGH), (LOW, 0, HIGH))

    def test_all_segments_close_to_the_ends(self):
        self.check_all((LOW, LOW + 1, HIGH), (LOW, HIGH - 1, HIGH))


if __name__ == "__main__":
    unittest.main()
