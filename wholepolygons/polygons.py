"""Polygons of whole points: the calls on one polygon, read from one list and answered in one list.

A point is a pair (x, y). A polygon is kept as the list of its corners, counterclockwise,
beginning with that of the least x, of these the least y.
"""

BEGIN = 1
CORNERS = 2
SIZE = 3
COUNT = 4
WHERE = 5
INNER = 6

REFUSED_LISTS = -3
REFUSED_BOUNDS = -1
REFUSED_LINE = -4

FEWEST_POINTS = 3
MOST_POINTS = 12
GREATEST_NUMBER = 20
GREATEST_TIMES = 1000

OUTSIDE = 0
AT_EDGE = 1
WITHIN = 2

FIRST_CORNERS = ((0, 0), (1, 0), (0, 1))


class NotPoints(Exception):
    pass


class BeyondBounds(Exception):
    pass


class InOneLine(Exception):
    pass


class UnknownCall(ValueError):
    pass


class Polygon:
    def __init__(self):
        self.corners = list(FIRST_CORNERS)


class Reader:
    def __init__(self, numbers):
        self.numbers = numbers
        self.place = 0

    def at_end(self):
        return self.place >= len(self.numbers)

    def take_number(self):
        number = self.numbers[self.place]
        self.place += 1
        return number

    def take_row(self):
        length = self.take_number()
        row = self.numbers[self.place:self.place + length]
        self.place += length
        return row


def turn(a, b, c):
    # Twice the area of a, b, c: above 0 just if c lies to the left of the way from a to b.
    return (b[0] - a[0]) * (c[1] - a[1]) - (b[1] - a[1]) * (c[0] - a[0])


def left_turning_way(points):
    way = []
    for point in points:
        # A point passed straight on is on an edge, so it is no corner either.
        while len(way) > 1 and turn(way[-2], way[-1], point) <= 0:
            way.pop()
        way.append(point)
    return way


def corners_of(points):
    # Of points all in one line this gives fewer than 3 corners; read_corners relies on it.
    ordered = sorted(set(points))
    below = left_turning_way(ordered)
    above = left_turning_way(list(reversed(ordered)))
    return below[:-1] + above[:-1]


def edges_of(corners):
    return list(zip(corners, corners[1:] + corners[:1]))


def greatest_divisor(a, b):
    greater = abs(a)
    lesser = abs(b)
    while lesser != 0:
        rest = greater % lesser
        greater = lesser
        lesser = rest
    return greater


def twice_area(corners):
    return sum([a[0] * b[1] - a[1] * b[0] for a, b in edges_of(corners)])


def count_at_edge(corners):
    return sum([greatest_divisor(b[0] - a[0], b[1] - a[1]) for a, b in edges_of(corners)])


def count_all(corners, k):
    # The sum is always even: twice the area and the points at the edge are both even or both odd.
    return (k * k * twice_area(corners) + k * count_at_edge(corners)) // 2 + 1


def count_within(corners):
    return count_all(corners, 1) - count_at_edge(corners)


def standing_of(corners, point):
    # The corners go counterclockwise, so what is within lies to the left of every edge.
    least = min([turn(a, b, point) for a, b in edges_of(corners)])
    if least < 0:
        return OUTSIDE
    if least == 0:
        return AT_EDGE
    return WITHIN


def points_within(corners):
    xs = [corner[0] for corner in corners]
    ys = [corner[1] for corner in corners]
    found = []
    for x in range(min(xs) + 1, max(xs)):
        for y in range(min(ys) + 1, max(ys)):
            if standing_of(corners, (x, y)) == WITHIN:
                found.append((x, y))
    return found


def read_points(plus, minus):
    if len(plus) != len(minus) or len(plus) % 2 != 0:
        raise NotPoints()
    numbers = [p - m for p, m in zip(plus, minus)]
    return [(numbers[k], numbers[k + 1]) for k in range(0, len(numbers), 2)]


def read_one_point(plus, minus):
    points = read_points(plus, minus)
    if len(points) != 1:
        raise NotPoints()
    return points[0]


def read_corners(plus, minus):
    points = read_points(plus, minus)
    if len(points) < FEWEST_POINTS or len(points) > MOST_POINTS:
        raise BeyondBounds()
    if any([max(abs(x), abs(y)) > GREATEST_NUMBER for x, y in points]):
        raise BeyondBounds()
    corners = corners_of(points)
    if len(corners) < 3:
        raise InOneLine()
    return corners


def told_with_count(points):
    told = [len(points)]
    for point in points:
        told.extend(point)
    return told


def answer_begin(polygon, reader):
    plus = reader.take_row()
    minus = reader.take_row()
    polygon.corners = read_corners(plus, minus)
    return [len(polygon.corners)]


def answer_size(corners):
    return [0, twice_area(corners), count_at_edge(corners), count_within(corners)]


def answer_count(corners, reader):
    k = reader.take_number()
    if k > GREATEST_TIMES:
        raise BeyondBounds()
    return [count_all(corners, k)]


def answer_where(corners, reader):
    plus = reader.take_row()
    minus = reader.take_row()
    return [standing_of(corners, read_one_point(plus, minus))]


def answer_call(polygon, reader):
    call = reader.take_number()
    if call == BEGIN:
        return answer_begin(polygon, reader)
    if call == CORNERS:
        return told_with_count(polygon.corners)
    if call == SIZE:
        return answer_size(polygon.corners)
    if call == COUNT:
        return answer_count(polygon.corners, reader)
    if call == WHERE:
        return answer_where(polygon.corners, reader)
    if call == INNER:
        return told_with_count(points_within(polygon.corners))
    raise UnknownCall(f"no such call: {call}")


def answer_or_refusal(polygon, reader):
    # Each call is read whole before anything is refused, so the next one is found all the same.
    try:
        return answer_call(polygon, reader)
    except NotPoints:
        return [REFUSED_LISTS]
    except BeyondBounds:
        return [REFUSED_BOUNDS]
    except InOneLine:
        return [REFUSED_LINE]


def answers(calls):
    reader = Reader(calls)
    polygon = Polygon()
    told = []
    while not reader.at_end():
        answer = answer_or_refusal(polygon, reader)
        told.append(len(answer))
        told.extend(answer)
    return told
