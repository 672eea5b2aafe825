"""The calls of exactplane: each takes lists of whole numbers and answers one list of whole numbers."""

MOST_POINTS = 4096
# 2 to the 128th: more than the product of any two differences of coordinates.
FINENESS = 340282366920938463463374607431768211456


def side(abc):
    """On which side of the line from a to b the point c lies: [1], [0] or [-1]."""
    return [turn_sign(point_at(abc, 0), point_at(abc, 1), point_at(abc, 2))]


def meet(abcd):
    """How the segments ab and cd meet: [0], [1], [2] or [3]."""
    return [how_they_meet(point_at(abcd, 0), point_at(abcd, 1), point_at(abcd, 2), point_at(abcd, 3))]


def hull(n, p):
    """The corners of the smallest convex area that has all n points: how many, then they; or [-2]."""
    if not is_number_of_points(n):
        return [-2]
    corners = corners_of(points_in(n, p))
    return [len(corners)] + numbers_of(corners)


def area(n, p):
    """0 and twice the area of the ring of n points, above 0 where it goes counterclockwise; or [-2]."""
    if not is_number_of_points(n):
        return [-2]
    twice = 0
    for edge in edges_of(points_in(n, p)):
        start = edge[0]
        end = edge[1]
        twice = twice + start[0] * end[1] - start[1] * end[0]
    return [0, twice]


def within(n, p, q):
    """[2] if q is on an edge of the ring, else [1] or [0] as it goes round q an odd number of times or not; or [-2]."""
    if not is_number_of_points(n):
        return [-2]
    point = point_at(q, 0)
    crossed = 0
    for edge in edges_of(points_in(n, p)):
        if is_on(edge, point):
            return [2]
        if is_crossed_from(edge, point):
            crossed = crossed + 1
    return [crossed % 2]


def simple(n, p):
    """[1] if the ring's edges, three at least, meet nowhere but each the next at its end, else [0]; or [-2]."""
    if not is_number_of_points(n):
        return [-2]
    ring = points_in(n, p)
    different = len(set(ring))
    # Of three equal points each edge is the point alone, and that's all that any two share, which follow one another.
    if n == 3 and different == 1:
        return [1]
    # Any other equal points are shared by edges that don't follow one another, or by two that share more than a point.
    if n < 3 or different < n or edges_meet(ring):
        return [0]
    return [1]


def nearest(n, p):
    """0, the places of the nearest two of n points, the smaller ahead, and the square of their distance; or [-2]."""
    if n < 2 or not is_number_of_points(n):
        return [-2]
    pair = nearest_pair(points_in(n, p))
    return [0, pair[1], pair[2], pair[0]]


def around(n, o, p):
    """0 and the n points in the order in which they're seen from o, counterclockwise from growing x; or [-2]."""
    if not is_number_of_points(n):
        return [-2]
    middle = point_at(o, 0)
    in_order = sorted(points_in(n, p), key=lambda point: how_it_is_seen(middle, point))
    return [0] + numbers_of(in_order)


def is_number_of_points(n):
    """Whether n points may be handed in."""
    return n >= 1 and n <= MOST_POINTS


def point_at(numbers, place):
    """The point at a place, counted from 0, of a list that has two numbers for each point."""
    return (numbers[2 * place], numbers[2 * place + 1])


def points_in(n, numbers):
    """The n points of a list that has two numbers for each point."""
    return [point_at(numbers, place) for place in range(n)]


def numbers_of(points):
    """The points' numbers, two for each point, one point behind another."""
    numbers = []
    for point in points:
        numbers.extend(point)
    return numbers


def edges_of(ring):
    """The edges of a ring, each its start and its end, that from the last point to the first ahead."""
    return [(ring[place - 1], ring[place]) for place in range(len(ring))]


def how_many_first(things, is_ahead):
    """How many of the things are ahead, where none of these comes behind one that isn't."""
    least = 0
    most = len(things)
    while least < most:
        middle = (least + most) // 2
        if is_ahead(things[middle]):
            least = middle + 1
        else:
            most = middle
    return least


def turn(a, b, c):
    """The turn of three points."""
    return (b[0] - a[0]) * (c[1] - a[1]) - (b[1] - a[1]) * (c[0] - a[0])


def turn_sign(a, b, c):
    """1, 0 or -1 as the turn of three points is above 0, 0, or below 0."""
    amount = turn(a, b, c)
    if amount > 0:
        return 1
    if amount < 0:
        return -1
    return 0


def how_they_meet(a, b, c, d):
    """What meet answers of the segments ab and cd."""
    seen_from_ab = (turn_sign(a, b, c), turn_sign(a, b, d))
    seen_from_cd = (turn_sign(c, d, a), turn_sign(c, d, b))
    # Of a and a every turn is 0, so one pair of zeros alone doesn't tell that all four lie on a line.
    if seen_from_ab == (0, 0) and seen_from_cd == (0, 0):
        return meet_on_one_line(a, b, c, d)
    return meet_off_one_line(seen_from_ab, seen_from_cd)


def meet_on_one_line(a, b, c, d):
    """What meet answers where all four points lie on one line."""
    # Along a line points come in the order of x, or of y where x stays the same: that of the pairs.
    first = max(min(a, b), min(c, d))
    last = min(max(a, b), max(c, d))
    if first > last:
        return 0
    if first == last:
        return 2
    return 3


def meet_off_one_line(seen_from_ab, seen_from_cd):
    """What meet answers where the four points don't lie on one line, from the signs of their turns."""
    # Two points strictly on one side of the other segment's line keep the segments apart.
    if seen_from_ab[0] * seen_from_ab[1] > 0 or seen_from_cd[0] * seen_from_cd[1] > 0:
        return 0
    # The lines cross in one point, so an end that lies on the other line is that point.
    if 0 in seen_from_ab or 0 in seen_from_cd:
        return 2
    return 1


def corners_of(points):
    """The corners of the points' hull, counterclockwise from the one with the smallest x, of these the smallest y."""
    in_order = sorted(set(points))
    there = bend_left(in_order)
    back = bend_left(list(reversed(in_order)))
    # Both ways have the first and the last point, which may be one and the same: those of the way there stay.
    return there + back[1:-1]


def bend_left(points):
    """The corners on the way from the first point to the last that has no point to its right.

    The points come in the order of the pairs, or in the reverse, each once.
    """
    way = []
    for point in points:
        # A turn of 0 goes too: a point between two others on a line is no corner.
        while len(way) > 1 and turn(way[-2], way[-1], point) <= 0:
            way.pop()
        way.append(point)
    return way


def is_on(edge, point):
    """Whether the point is on the edge."""
    # On the edge's line points come in the order of the pairs; of a and a every turn is 0, and a alone is between.
    return turn(edge[0], edge[1], point) == 0 and min(edge) <= point and point <= max(edge)


def is_crossed_from(edge, point):
    """Whether a half-line from the point, which isn't on the edge, crosses the edge."""
    # The half-line goes towards growing x, and up by so little that all points ahead at the point's height are below.
    start_is_above = edge[0][1] > point[1]
    end_is_above = edge[1][1] > point[1]
    if start_is_above == end_is_above:
        return False
    # An edge is ahead of what it has to its left on its way up, and to its right on its way down.
    return (turn(edge[0], edge[1], point) > 0) == end_is_above


def edges_meet(ring):
    """Whether edges of a ring, all points of which are different, meet but each the next at its end."""
    # A line sweeps over the points in the order of the pairs and keeps the edges that it crosses, from the lowest to
    # the highest: two that cross are neighbours before they do, so that only neighbours have to be looked at.
    crossed = []
    for stop in stops_of(ring):
        first = how_many_below(crossed, stop[0])
        through = how_many_through(crossed, first, stop[0])
        begun = edges_begun(stop)
        # Of the point's own two edges those that don't begin end here: a third one comes through.
        if through + len(begun) > 2:
            return True
        crossed = crossed[:first] + begun + crossed[first + through:]
        if neighbours_meet(crossed, first) or neighbours_meet(crossed, first + len(begun)):
            return True
    return False


def stops_of(ring):
    """The points of a ring in the order of the pairs, each with those before and after it in the ring behind it."""
    return sorted([(ring[place - 1], ring[place - 2], ring[place]) for place in range(len(ring))])


def how_many_below(crossed, point):
    """How many of the crossed edges, which are the first ones, are below the point."""
    return how_many_first(crossed, lambda edge: turn(edge[0], edge[1], point) > 0)


def how_many_through(crossed, first, point):
    """How many of the crossed edges, from the first that isn't below the point on, have the point."""
    last = first
    while last < len(crossed) and turn(crossed[last][0], crossed[last][1], point) == 0:
        last = last + 1
    return last - first


def edges_begun(stop):
    """The edges from a stop's point to those of the two others that come later, the lower edge first."""
    later = [other for other in stop[1:] if other > stop[0]]
    if len(later) == 2 and turn(stop[0], later[0], later[1]) < 0:
        later.reverse()
    return [(stop[0], other) for other in later]


def neighbours_meet(crossed, place):
    """Whether the crossed edge at a place and the one below it meet, but as edges that follow one another do."""
    if place == 0 or place == len(crossed):
        return False
    lower = crossed[place - 1]
    upper = crossed[place]
    # All points of the ring are different: edges with an end in common follow one another.
    if lower[0] in upper or lower[1] in upper:
        return False
    return how_they_meet(lower[0], lower[1], upper[0], upper[1]) > 0


def nearest_pair(points):
    """The two points that nearest answers, as the square of their distance and their places, the smaller ahead."""
    # So written, the pair that is asked is the smallest of all pairs.
    equal = equal_pairs(points)
    if len(equal) > 0:
        return min(equal)
    return nearest_of_different(points)


def equal_pairs(points):
    """Of equal points the first with each of the others, written as nearest_pair does."""
    first_places = {}
    pairs = []
    for place in range(len(points)):
        first = first_places.setdefault(points[place], place)
        if first < place:
            pairs.append((0, first, place))
    return pairs


def nearest_of_different(points):
    """The nearest two of points that are all different, written as nearest_pair does."""
    # A line sweeps upwards over the points and keeps, from left to right, those that aren't farther below it than the
    # nearest two so far are apart. As no two of these are nearer to each other, only few are near the next point.
    spots = [(points[place][0], points[place][1], place) for place in range(len(points))]
    upwards = sorted(spots, key=lambda spot: spot[1])
    best = pair_of(upwards[0], upwards[1])
    kept = []
    lowest = 0
    for spot in upwards:
        while square(spot[1] - upwards[lowest][1]) > best[0]:
            kept.pop(how_many_left(kept, upwards[lowest]))
            lowest = lowest + 1
        left = how_many_left(kept, spot)
        near = spots_near(kept, left, spot, best[0])
        best = min([best] + [pair_of(spot, other) for other in near])
        kept.insert(left, spot)
    return best


def pair_of(spot, other):
    """Two spots, which are x, y and the place of a point each, written as nearest_pair does."""
    squared = square(spot[0] - other[0]) + square(spot[1] - other[1])
    return (squared, min(spot[2], other[2]), max(spot[2], other[2]))


def square(number):
    """The number times itself."""
    return number * number


def how_many_left(kept, spot):
    """How many of the kept spots, which are the first ones, come before the spot on the way from left to right."""
    return how_many_first(kept, lambda other: other < spot)


def spots_near(kept, left, spot, most):
    """The kept spots to the left and right of the spot, until the square of how far it is across is above most."""
    near = []
    place = left
    # One that is just as far is among them: it may make a pair with smaller places.
    while place < len(kept) and square(kept[place][0] - spot[0]) <= most:
        near.append(kept[place])
        place = place + 1
    place = left - 1
    while place >= 0 and square(kept[place][0] - spot[0]) <= most:
        near.append(kept[place])
        place = place - 1
    return near


def how_it_is_seen(middle, point):
    """What points are sorted by to be in the order in which they're seen: a quarter, the steepness there, how far."""
    across = point[0] - middle[0]
    up = point[1] - middle[1]
    if across == 0 and up == 0:
        return (0, 0, 0)
    quarter = 1
    # The first quarter has the direction of growing x, but not that of growing y; the others are turned back to it.
    while across <= 0 or up < 0:
        before = across
        across = up
        up = -before
        quarter = quarter + 1
    # Two steepnesses that aren't equal differ by more than one part in FINENESS, so rounding down keeps them apart.
    return (quarter, up * FINENESS // across, across)
