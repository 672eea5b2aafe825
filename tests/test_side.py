"""Promise 1: side answers 1, 0 or -1 as the turn of a, b, c is above 0, 0, or below 0."""

import itertools
import unittest

from exactplane.plane import side
from handed_in import HIGH, LOW, check_call


class SideTest(unittest.TestCase):
    def check(self, abc, expected):
        check_call(self, side, abc, [expected])

    def check_turned(self, abc, expected):
        """Also in every other order of the three: a swap of two turns the sign."""
        a, b, c = abc[0:2], abc[2:4], abc[4:6]
        for points in ((a, b, c), (b, c, a), (c, a, b)):
            self.check(list(itertools.chain(*points)), expected)
        for points in ((b, a, c), (a, c, b), (c, b, a)):
            self.check(list(itertools.chain(*points)), -expected)

    def test_above_zero(self):
        self.check([0, 0, 4, 0, 1, 3], 1)
        self.check_turned([-5, -7, 2, -6, -4, 8], 1)

    def test_below_zero(self):
        self.check([0, 0, 4, 0, 1, -3], -1)
        self.check_turned([-5, -7, -4, 8, 2, -6], -1)

    def test_zero_on_one_line(self):
        for c in ([2, 4], [-3, -6], [5, 10], [0, 0]):
            self.check_turned([0, 0, 1, 2] + c, 0)
        self.check_turned([3, -1, 3, 5, 3, 90], 0)
        self.check_turned([-1, 3, 5, 3, 90, 3], 0)

    def test_zero_with_equal_points(self):
        for other in ([1, 2], [-9, 4], [LOW, HIGH], [HIGH, LOW]):
            for same in ([0, 0], [5, -8], [LOW, LOW], [HIGH, HIGH], [LOW, HIGH]):
                self.check_turned(same + same + other, 0)
                self.check_turned(same + same + same, 0)

    def test_turn_of_one_at_the_ends_of_the_range(self):
        self.check_turned([LOW, LOW, HIGH, HIGH - 1, HIGH - 1, HIGH - 2], -1)
        self.check_turned([HIGH, HIGH, LOW, LOW + 1, LOW + 1, LOW + 2], -1)
        self.check_turned([LOW, HIGH, HIGH, LOW + 1, HIGH - 1, LOW + 2], 1)

    def test_turn_of_zero_at_the_ends_of_the_range(self):
        self.check_turned([LOW, LOW, HIGH, HIGH, 0, 0], 0)
        self.check_turned([LOW, HIGH, HIGH, LOW, -1, 0], 0)
        self.check_turned([LOW, LOW, LOW, HIGH, LOW, 5], 0)

    def test_little_beside_a_long_line(self):
        self.check_turned([LOW, LOW, HIGH, HIGH, 0, 1], 1)
        self.check_turned([LOW, LOW, HIGH, HIGH, 1, 0], -1)
        self.check_turned([LOW, LOW, HIGH, HIGH, HIGH - 1, HIGH], 1)
        self.check_turned([LOW, LOW, HIGH, HIGH, LOW + 1, LOW], -1)

    def test_turns_that_vanish_or_change_sign_in_fewer_bits(self):
        for bits in (16, 31, 32, 48, 62):
            self.check_turned([0, 0, 1 << bits, 0, 0, 1 << bits], 1)
        self.check_turned([0, 0, 1 << 32, 0, 0, 1 << 31], 1)
        self.check_turned([-(1 << 62), LOW, 1 << 62, LOW, 0, 0], 1)

    def test_largest_turns(self):
        self.check_turned([LOW, LOW, HIGH, LOW, HIGH, HIGH], 1)
        self.check_turned([LOW, LOW, LOW, HIGH, HIGH, HIGH], -1)

    def test_every_corner_of_the_range(self):
        ends = (LOW, LOW + 1, HIGH - 1, HIGH)
        points = list(itertools.product(ends, ends))
        for a, b, c in itertools.product(points, repeat=3):
            # The sum over the edges is another way to write the turn.
            around = (a[0] * b[1] - a[1] * b[0]) + (b[0] * c[1] - b[1] * c[0]) + (c[0] * a[1] - c[1] * a[0])
            self.assertEqual(side([*a, *b, *c]), [(around > 0) - (around < 0)], (a, b, c))


if __name__ == "__main__":
    unittest.main()
