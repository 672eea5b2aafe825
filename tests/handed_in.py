"""Checks that hold of every call, whatever it answers."""

LOW = -9223372036854775808
HIGH = 9223372036854775807


def refuse(*args, **kwargs):
    raise AssertionError("what is handed in was changed")


class Untouchable(list):
    """A list that no call may change, not for a while either."""

    __setitem__ = __delitem__ = __iadd__ = __imul__ = refuse
    append = extend = insert = pop = remove = clear = sort = reverse = refuse


def check_call(case, call, numbers, expected):
    """The call answers the expected list of ints, anew each time, and leaves its input alone."""
    handed = list(numbers)
    answer = call(handed)
    case.assertIs(type(answer), list)
    case.assertTrue(all(type(number) is int for number in answer), answer)
    case.assertEqual(answer, expected, numbers)
    case.assertEqual(handed, list(numbers))
    case.assertEqual(call(Untouchable(numbers)), expected, numbers)
    answer.append(7)
    case.assertEqual(call(handed), expected, numbers)
