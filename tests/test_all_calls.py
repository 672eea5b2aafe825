"""Over the whole program: whenever a function is called, whatever was called before, it is as if for the first time."""

import itertools
import os
import re
import unittest

from exactplane import plane
from handed_in import HIGH, LOW, Untouchable

README = os.path.join(os.path.dirname(os.path.abspath(__file__)), "..", "README.md")
SQUARE = [0, 0, 4, 0, 4, 4, 0, 4]
BOW = [0, 0, 4, 4, 4, 0, 0, 4]
WIDE = [LOW, LOW, HIGH, LOW, HIGH, HIGH]
# Of each function: what is handed in, and what it answers.
CALLS = (
    (plane.side, ([0, 0, 4, 0, 1, 3],), [1]),
    (plane.side, ([0, 0, 4, 0, 1, -3],), [-1]),
    (plane.side, ([LOW, LOW, HIGH, HIGH, 0, 0],), [0]),
    (plane.meet, (SQUARE,), [0]),
    (plane.meet, ([0, 0, 4, 4, 0, 4, 4, 0],), [1]),
    (plane.meet, ([0, 0, 4, 4, 4, 4, 9, 0],), [2]),
    (plane.meet, ([0, 0, 4, 4, 2, 2, 9, 9],), [3]),
    (plane.hull, (0, []), [-2]),
    (plane.hull, (4, BOW), [4, 0, 0, 4, 0, 4, 4, 0, 4]),
    (plane.hull, (3, WIDE), [3, LOW, LOW, HIGH, LOW, HIGH, HIGH]),
    (plane.area, (4097, []), [-2]),
    (plane.area, (4, SQUARE), [0, 32]),
    (plane.area, (4, BOW), [0, 0]),
    (plane.area, (3, WIDE), [0, (HIGH - LOW) ** 2]),
    (plane.within, (-1, [], [1, 2]), [-2]),
    (plane.within, (4, SQUARE, [1, 2]), [1]),
    (plane.within, (4, BOW, [1, 2]), [1]),
    (plane.within, (4, BOW, [2, 2]), [2]),
    (plane.within, (4, BOW, [2, 3]), [0]),
    (plane.simple, (-2147483648, []), [-2]),
    (plane.simple, (4, SQUARE), [1]),
    (plane.simple, (4, BOW), [0]),
    (plane.simple, (3, [5, 5, 5, 5, 5, 5]), [1]),
    (plane.nearest, (1, []), [-2]),
    (plane.nearest, (4, SQUARE), [0, 0, 1, 16]),
    (plane.nearest, (4, BOW), [0, 0, 2, 16]),
    (plane.nearest, (3, [5, 5, 9, 9, 5, 5]), [0, 0, 2, 0]),
    (plane.nearest, (3, WIDE), [0, 0, 1, (HIGH - LOW) ** 2]),
    (plane.around, (2147483647, [1, 2], []), [-2]),
    (plane.around, (4, [0, 0], BOW), [0, 0, 0, 4, 0, 4, 4, 0, 4]),
    (plane.around, (4, [4, 4], BOW), [0, 4, 4, 0, 4, 0, 0, 4, 0]),
    (plane.around, (3, [HIGH, LOW], WIDE), [0, HIGH, LOW, HIGH, HIGH, LOW, LOW]),
)


def handed(arguments):
    """The arguments, each list a new one that may not be changed."""
    return [Untouchable(argument) if isinstance(argument, list) else argument for argument in arguments]


class AllCallsTest(unittest.TestCase):
    def check(self, call):
        function, arguments, expected = call
        answer = function(*handed(arguments))
        self.assertEqual(answer, expected, (function.__name__, arguments))
        # Whoever has an answer may change it.
        answer.clear()

    def test_each_function_is_there(self):
        names = ["side", "meet", "hull", "area", "within", "simple", "nearest", "around"]
        self.assertEqual(list(dict.fromkeys(function.__name__ for function, arguments, expected in CALLS)), names)

    def test_each_call_again(self):
        for call in CALLS:
            self.check(call)
            self.check(call)

    def test_each_call_behind_each_other(self):
        for first, second in itertools.product(CALLS, repeat=2):
            self.check(first)
            self.check(second)
            self.check(first)

    def test_all_calls_in_several_orders(self):
        for step in (1, 3, 5, 7, 11, 13, -1, -3):
            for place in range(3 * len(CALLS)):
                self.check(CALLS[place * step % len(CALLS)])

    def test_the_same_lists_with_other_numbers(self):
        p, q = [0, 0, 4, 0, 4, 4, 0, 4], [1, 2]
        for ring, point, answers in ((SQUARE, (1, 2), ([0, 32], [1], [1], [0, 0, 1, 16])),
                                     (BOW, (2, 2), ([0, 0], [2], [0], [0, 0, 2, 16])),
                                     (SQUARE, (5, 2), ([0, 32], [0], [1], [0, 0, 1, 16]))):
            p[:] = ring
            q[:] = point
            found = (plane.area(4, p), plane.within(4, p, q), plane.simple(4, p), plane.nearest(4, p))
            self.assertEqual(found, answers)
            self.assertEqual(sorted(plane.around(4, q, p)[1:]), sorted(ring))
            self.assertEqual(plane.hull(4, p), [4, *SQUARE])

    def test_an_answer_is_no_list_that_was_handed_in(self):
        for function, arguments, expected in CALLS:
            lists = [list(argument) if isinstance(argument, list) else argument for argument in arguments]
            answer = function(*lists)
            self.assertFalse(any(answer is argument for argument in lists))
            self.assertIsNot(answer, function(*lists))

    def test_nothing_at_the_top_changes(self):
        before = dict(vars(plane))
        shown = repr([value for name, value in sorted(before.items()) if not name.startswith("__")])
        for call in CALLS:
            self.check(call)
        self.assertEqual(dict(vars(plane)), before)
        after = [value for name, value in sorted(vars(plane).items()) if not name.startswith("__")]
        self.assertEqual(repr(after), shown)
        for value in after:
            self.assertFalse(getattr(value, "__defaults__", None))
            self.assertFalse(getattr(value, "__dict__", None))

    def test_the_readme_tells_what_is_answered(self):
        with open(README, encoding="utf-8") as file:
            block = re.search("```python\n(.*?)```", file.read(), re.DOTALL).group(1)
        shown = [line.split("#") for line in block.splitlines() if "#" in line]
        self.assertEqual(len(shown), 8)
        for call, answer in shown:
            self.assertEqual(eval(call, dict(vars(plane))), eval(answer), call)


if __name__ == "__main__":
    unittest.main()
