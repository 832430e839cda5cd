"""Polygons of whole points: the calls on one polygon, read from one list and answered in one list.

A point is a pair (x, y). A polygon is kept as the list of its corners, counterclockwise,
beginning with that of the least x, of these the least y.
"""

BEGIN = 1
CORNERS = 2
SIZE = 3
COUNT = 4
WHERE = 5
INNER = 6
WIDTH = 7
FORM = 8
SAME = 9
DUAL = 10
TWELVE = 11

REFUSED_LISTS = -3
REFUSED_BOUNDS = -1
REFUSED_LINE = -4
REFUSED_WITHIN = -4

FEWEST_POINTS = 3
MOST_POINTS = 12
GREATEST_NUMBER = 20
GREATEST_TIMES = 1000

OUTSIDE = 0
AT_EDGE = 1
WITHIN = 2

FIRST_CORNERS = ((0, 0), (1, 0), (0, 1))


class NotPoints(Exception):
    pass


class BeyondBounds(Exception):
    pass


class InOneLine(Exception):
    pass


class NotJustOneWithin(Exception):
    pass


class UnknownCall(ValueError):
    pass


class Polygon:
    def __init__(self):
        self.corners = list(FIRST_CORNERS)


class Reader:
    def __init__(self, numbers):
        self.numbers = numbers
        self.place = 0

    def at_end(self):
        return self.place >= len(self.numbers)

    def take_number(self):
        number = self.numbers[self.place]
        self.place += 1
        return number

    def take_row(self):
        length = self.take_number()
        row = self.numbers[self.place:self.place + length]
        self.place += length
        return row


def cross(a, b):
    return a[0] * b[1] - a[1] * b[0]


def seen_from(origin, points):
    return [(x - origin[0], y - origin[1]) for x, y in points]


def turn(a, b, c):
    # Twice the area of a, b, c: above 0 just if c lies to the left of the way from a to b.
    return (b[0] - a[0]) * (c[1] - a[1]) - (b[1] - a[1]) * (c[0] - a[0])


def left_turning_way(points):
    way = []
    for point in points:
        # A point passed straight on is on an edge, so it is no corner either.
        while len(way) > 1 and turn(way[-2], way[-1], point) <= 0:
            way.pop()
        way.append(point)
    return way


def corners_of(points):
    # Of points all in one line this gives fewer than 3 corners; read_corners relies on it.
    ordered = sorted(set(points))
    below = left_turning_way(ordered)
    above = left_turning_way(list(reversed(ordered)))
    return below[:-1] + above[:-1]


def edges_of(corners):
    return list(zip(corners, corners[1:] + corners[:1]))


def divisor_and_factors(a, b):
    # Each triple is (d, m, n) with m * a + n * b being d, from the two plain ones on down to the greatest divisor.
    greater = (a, 1, 0)
    lesser = (b, 0, 1)
    while lesser[0] != 0:
        times = greater[0] // lesser[0]
        rest = tuple([g - times * s for g, s in zip(greater, lesser)])
        greater = lesser
        lesser = rest
    if greater[0] < 0:
        return tuple([-number for number in greater])
    return greater


def greatest_divisor(a, b):
    return divisor_and_factors(a, b)[0]


def twice_area(corners):
    return sum([cross(a, b) for a, b in edges_of(corners)])


def count_at_edge(corners):
    return sum([greatest_divisor(b[0] - a[0], b[1] - a[1]) for a, b in edges_of(corners)])


def count_all(corners, k):
    # The sum is always even: twice the area and the points at the edge are both even or both odd.
    return (k * k * twice_area(corners) + k * count_at_edge(corners)) // 2 + 1


def count_within(corners):
    return count_all(corners, 1) - count_at_edge(corners)


def standing_of(corners, point):
    # The corners go counterclockwise, so what is within lies to the left of every edge.
    least = min([turn(a, b, point) for a, b in edges_of(corners)])
    if least < 0:
        return OUTSIDE
    if least == 0:
        return AT_EDGE
    return WITHIN


def points_within(corners):
    xs = [corner[0] for corner in corners]
    ys = [corner[1] for corner in corners]
    found = []
    for x in range(min(xs) + 1, max(xs)):
        for y in range(min(ys) + 1, max(ys)):
            if standing_of(corners, (x, y)) == WITHIN:
                found.append((x, y))
    return found


def width_across(corners, direction):
    values = [direction[0] * x + direction[1] * y for x, y in corners]
    return max(values) - min(values)


def pairs_reaching(reach):
    # Of the pairs whose greater number is so far from 0, one of each two that are opposite: these are one direction.
    return [(reach, t) for t in range(1 - reach, reach + 1)] + [(s, reach) for s in range(-reach, reach)]


def direction_rising(b, s, c, t):
    # That along which b is s and c is t beyond the origin, or else its opposite; None if it isn't whole.
    area = cross(b, c)
    p = s * c[1] - t * b[1]
    q = t * b[0] - s * c[0]
    if p % area != 0 or q % area != 0:
        return None
    if p < 0 or (p == 0 and q < 0):
        return (-p // area, -q // area)
    return (p // area, q // area)


def narrowest_directions(corners):
    # Across a direction the polygon is at least what lies between two of its corners, so none beyond the reach is as
    # narrow. One with a common divisor comes behind the narrower one without, so it is never taken.
    seen = seen_from(corners[0], corners)
    least = width_across(corners, (1, 0))
    found = []
    reach = 1
    while reach <= least:
        for s, t in pairs_reaching(reach):
            direction = direction_rising(seen[1], s, seen[2], t)
            if direction is None:
                continue
            width = width_across(corners, direction)
            if width < least:
                least = width
                found = []
            if width == least:
                found.append(direction)
        reach += 1
    return sorted(found)


def mirrored(corners):
    # Mirroring turns the way round, so they are told from behind.
    return [(-x, y) for x, y in reversed(corners)]


def row_from(corners, start):
    seen = seen_from(corners[start], corners[start:] + corners[:start])
    ahead = seen[1]
    factors = divisor_and_factors(ahead[0], ahead[1])
    divisor = factors[0]
    level = [(factors[1] * x + factors[2] * y, cross(ahead, (x, y)) // divisor) for x, y in seen]
    third = level[2]
    lean = (third[0] - divisor) // third[1]
    return [(x - lean * y, y) for x, y in level]


def rows_from_each(corners):
    return [row_from(corners, start) for start in range(len(corners))]


def one_form(corners):
    return min(rows_from_each(corners) + rows_from_each(mirrored(corners)))


def dual_corner(a, b):
    # Both are whole: along the edge no line of whole points lies between it and the one within.
    area = cross(a, b)
    return ((b[1] - a[1]) // area, (a[0] - b[0]) // area)


def dual_corners(corners):
    if count_within(corners) != 1:
        raise NotJustOneWithin()
    middle = points_within(corners)[0]
    return [dual_corner(a, b) for a, b in edges_of(seen_from(middle, corners))]


def read_points(plus, minus):
    if len(plus) != len(minus) or len(plus) % 2 != 0:
        raise NotPoints()
    numbers = [p - m for p, m in zip(plus, minus)]
    return [(numbers[k], numbers[k + 1]) for k in range(0, len(numbers), 2)]


def read_one_point(plus, minus):
    points = read_points(plus, minus)
    if len(points) != 1:
        raise NotPoints()
    return points[0]


def read_corners(plus, minus):
    points = read_points(plus, minus)
    if len(points) < FEWEST_POINTS or len(points) > MOST_POINTS:
        raise BeyondBounds()
    if any([max(abs(x), abs(y)) > GREATEST_NUMBER for x, y in points]):
        raise BeyondBounds()
    corners = corners_of(points)
    if len(corners) < 3:
        raise InOneLine()
    return corners


def numbers_of(points):
    numbers = []
    for point in points:
        numbers.extend(point)
    return numbers


def told_with_count(points):
    return [len(points)] + numbers_of(points)


def answer_begin(polygon, reader):
    plus = reader.take_row()
    minus = reader.take_row()
    polygon.corners = read_corners(plus, minus)
    return [len(polygon.corners)]


def answer_size(corners):
    return [0, twice_area(corners), count_at_edge(corners), count_within(corners)]


def answer_count(corners, reader):
    k = reader.take_number()
    if k > GREATEST_TIMES:
        raise BeyondBounds()
    return [count_all(corners, k)]


def answer_where(corners, reader):
    plus = reader.take_row()
    minus = reader.take_row()
    return [standing_of(corners, read_one_point(plus, minus))]


def answer_width(corners):
    directions = narrowest_directions(corners)
    return [len(directions), width_across(corners, directions[0])] + numbers_of(directions)


def answer_same(corners, reader):
    plus = reader.take_row()
    minus = reader.take_row()
    return [1 if one_form(read_corners(plus, minus)) == one_form(corners) else 0]


def answer_twelve(corners):
    return [0, count_at_edge(corners), count_at_edge(dual_corners(corners))]


def answer_call(polygon, reader):
    call = reader.take_number()
    if call == BEGIN:
        return answer_begin(polygon, reader)
    if call == CORNERS:
        return told_with_count(polygon.corners)
    if call == SIZE:
        return answer_size(polygon.corners)
    if call == COUNT:
        return answer_count(polygon.corners, reader)
    if call == WHERE:
        return answer_where(polygon.corners, reader)
    if call == INNER:
        return told_with_count(points_within(polygon.corners))
    if call == WIDTH:
        return answer_width(polygon.corners)
    if call == FORM:
        return told_with_count(one_form(polygon.corners))
    if call == SAME:
        return answer_same(polygon.corners, reader)
    if call == DUAL:
        return told_with_count(one_form(dual_corners(polygon.corners)))
    if call == TWELVE:
        return answer_twelve(polygon.corners)
    raise UnknownCall(f"no such call: {call}")


def answer_or_refusal(polygon, reader):
    # Each call is read whole before anything is refused, so the next one is found all the same.
    try:
        return answer_call(polygon, reader)
    except NotPoints:
        return [REFUSED_LISTS]
    except BeyondBounds:
        return [REFUSED_BOUNDS]
    except InOneLine:
        return [REFUSED_LINE]
    except NotJustOneWithin:
        return [REFUSED_WITHIN]


def answers(calls):
    reader = Reader(calls)
    polygon = Polygon()
    told = []
    while not reader.at_end():
        answer = answer_or_refusal(polygon, reader)
        told.append(len(answer))
        told.extend(answer)
    return told
