"""The calls of exactplane: each takes lists of whole numbers and answers one list of whole numbers."""

MOST_POINTS = 4096


def side(abc):
    """On which side of the line from a to b the point c lies: [1], [0] or [-1]."""
    return [turn_sign(point_at(abc, 0), point_at(abc, 1), point_at(abc, 2))]


def meet(abcd):
    """How the segments ab and cd meet: [0], [1], [2] or [3]."""
    a = point_at(abcd, 0)
    b = point_at(abcd, 1)
    c = point_at(abcd, 2)
    d = point_at(abcd, 3)
    seen_from_ab = (turn_sign(a, b, c), turn_sign(a, b, d))
    seen_from_cd = (turn_sign(c, d, a), turn_sign(c, d, b))
    # Of a and a every turn is 0, so one pair of zeros alone doesn't tell that all four lie on a line.
    if seen_from_ab == (0, 0) and seen_from_cd == (0, 0):
        return [meet_on_one_line(a, b, c, d)]
    return [meet_off_one_line(seen_from_ab, seen_from_cd)]


def hull(n, p):
    """The corners of the smallest convex area that has all n points: how many, then they; or [-2]."""
    if not is_number_of_points(n):
        return [-2]
    corners = corners_of(points_in(n, p))
    answer = [len(corners)]
    for corner in corners:
        answer.extend(corner)
    return answer


def area(n, p):
    """0 and twice the area of the ring of n points, above 0 where it goes counterclockwise; or [-2]."""
    if not is_number_of_points(n):
        return [-2]
    twice = 0
    for place in range(n):
        start = point_at(p, place)
        end = point_at(p, (place + 1) % n)
        twice = twice + start[0] * end[1] - start[1] * end[0]
    return [0, twice]


def is_number_of_points(n):
    """Whether n points may be handed in."""
    return n >= 1 and n <= MOST_POINTS


def point_at(numbers, place):
    """The point at a place, counted from 0, of a list that has two numbers for each point."""
    return (numbers[2 * place], numbers[2 * place + 1])


def points_in(n, numbers):
    """The n points of a list that has two numbers for each point."""
    return [point_at(numbers, place) for place in range(n)]


def turn(a, b, c):
    """The turn of three points."""
    return (b[0] - a[0]) * (c[1] - a[1]) - (b[1] - a[1]) * (c[0] - a[0])


def turn_sign(a, b, c):
    """1, 0 or -1 as the turn of three points is above 0, 0, or below 0."""
    amount = turn(a, b, c)
    if amount > 0:
        return 1
    if amount < 0:
        return -1
    return 0


def meet_on_one_line(a, b, c, d):
    """What meet answers where all four points lie on one line."""
    # Along a line points come in the order of x, or of y where x stays the same: that of the pairs.
    first = max(min(a, b), min(c, d))
    last = min(max(a, b), max(c, d))
    if first > last:
        return 0
    if first == last:
        return 2
    return 3


def meet_off_one_line(seen_from_ab, seen_from_cd):
    """What meet answers where the four points don't lie on one line, from the signs of their turns."""
    # Two points strictly on one side of the other segment's line keep the segments apart.
    if seen_from_ab[0] * seen_from_ab[1] > 0 or seen_from_cd[0] * seen_from_cd[1] > 0:
        return 0
    # The lines cross in one point, so an end that lies on the other line is that point.
    if 0 in seen_from_ab or 0 in seen_from_cd:
        return 2
    return 1


def corners_of(points):
    """The corners of the points' hull, counterclockwise from the one with the smallest x, of these the smallest y."""
    in_order = sorted(set(points))
    there = bend_left(in_order)
    back = bend_left(list(reversed(in_order)))
    # Both ways have the first and the last point, which may be one and the same: those of the way there stay.
    return there + back[1:-1]


def bend_left(points):
    """The corners on the way from the first point to the last that has no point to its right.

    The points come in the order of the pairs, or in the reverse, each once.
    """
    way = []
    for point in points:
        # A turn of 0 goes too: a point between two others on a line is no corner.
        while len(way) > 1 and turn(way[-2], way[-1], point) <= 0:
            way.pop()
        way.append(point)
    return way
