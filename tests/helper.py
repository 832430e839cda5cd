"""What several tests use: calls put into one list, answers taken apart, and slow ways to count."""

from itertools import combinations
from math import gcd

from wholepolygons.polygons import answers

FIRST = [(0, 0), (1, 0), (0, 1)]
GREATEST = 18446744073709551615

CORNERS = [2]
SIZE = [3]
INNER = [6]
WIDTH = [7]
FORM = [8]
DUAL = [10]
TWELVE = [11]

# A whole map is (a, b, c, d, e, f): (x, y) goes to (a x + b y + e, c x + d y + f).
MAPS = [
    (1, 0, 0, 1, 3, -2), (0, -1, 1, 0, 0, 0), (-1, 0, 0, 1, 1, 1), (0, 1, 1, 0, -2, 0), (-1, 0, 0, -1, 0, 4),
    (1, 1, 0, 1, 0, 0), (1, 0, -1, 1, 2, 2), (1, 2, 0, -1, -1, 3), (2, 1, 1, 1, 0, -1), (2, 1, 3, 2, 1, 0),
    (3, 2, 1, 1, -1, -1), (1, -3, 0, 1, 0, 0), (2, -1, 3, -1, 0, 0), (2, 1, 1, 0, 0, 0), (1, 1, 2, 1, 3, 3),
]


def rows(plus, minus):
    return [len(plus)] + list(plus) + [len(minus)] + list(minus)


def point_rows(points, lift=0):
    """The two rows that tell these points; lift is put onto both numbers of each difference."""
    numbers = [number for point in points for number in point]
    plus = [max(number, 0) + lift for number in numbers]
    minus = [max(-number, 0) + lift for number in numbers]
    return rows(plus, minus)


def begin(points, lift=0):
    return [1] + point_rows(points, lift)


def same(points, lift=0):
    return [9] + point_rows(points, lift)


def where(point, lift=0):
    return [5] + point_rows([point], lift)


def count(k):
    return [4, k]


def ask(*calls):
    """The answers to these calls, one list for each."""
    given = answers([number for call in calls for number in call])
    apart = []
    place = 0
    while place < len(given):
        length = given[place]
        assert length > 0, given
        apart.append(given[place + 1:place + 1 + length])
        place += 1 + length
    assert place == len(given) and len(apart) == len(calls), given
    return apart


def ask_last(*calls):
    return ask(*calls)[-1]


def told(points):
    """How many points, then these."""
    return [len(points)] + [number for point in points for number in point]


def points_told(answer):
    points = list(zip(answer[1::2], answer[2::2]))
    assert told(points) == answer, answer
    return points


def turn(a, b, c):
    return (b[0] - a[0]) * (c[1] - a[1]) - (c[0] - a[0]) * (b[1] - a[1])


def in_triangle(point, three):
    a, b, c = three
    turns = (turn(a, b, point), turn(b, c, point), turn(c, a, point))
    if min(turns) < 0 < max(turns):
        return False
    return all(min(p[k] for p in three) <= point[k] <= max(p[k] for p in three) for k in (0, 1))


def slow_has(points, point):
    """Is the point in what lies between the points? It is just if it lies between three of them."""
    return any(in_triangle(point, three) for three in combinations((list(points) * 3)[:max(3, len(points))], 3))


def slow_within(points, point):
    """A point is within just if every line through it has points on both sides."""
    if not slow_has(points, point):
        return False
    for other in points:
        turns = [turn(point, other, third) for third in points]
        if other != point and not min(turns) < 0 < max(turns):
            return False
    return True


def slow_where(points, point):
    if slow_within(points, point):
        return 2
    return 1 if slow_has(points, point) else 0


def box(points, margin=0):
    xs = [x for x, y in points]
    ys = [y for x, y in points]
    return [
        (x, y)
        for x in range(min(xs) - margin, max(xs) + margin + 1)
        for y in range(min(ys) - margin, max(ys) + margin + 1)
    ]


def slow_corners(points):
    """Those points that the polygon doesn't have without them, in no told order."""
    apart = sorted(set(points))
    return [point for point in apart if not slow_has([p for p in apart if p != point], point)]


def slow_ring(points):
    """The corners, counterclockwise from the least one on: each next one has all others to the left."""
    corners = slow_corners(points)
    ring = [min(corners)]
    while len(ring) < len(corners):
        ring += [c for c in corners if c != ring[-1] and all(turn(ring[-1], c, other) >= 0 for other in corners)]
    return ring


def moved(points, whole_map):
    a, b, c, d, e, f = whole_map
    return [(a * x + b * y + e, c * x + d * y + f) for x, y in points]


def map_between(three, others):
    """The map that takes these three points to the others in their order, or None if it isn't a whole one."""
    (px, py), (qx, qy), (rx, ry) = three
    area = turn(*three)
    numbers = []
    for k in (0, 1):
        q, r = others[1][k] - others[0][k], others[2][k] - others[0][k]
        numbers += [q * (ry - py) - r * (qy - py), r * (qx - px) - q * (rx - px)]
    if any(number % area for number in numbers):
        return None
    a, b, c, d = [number // area for number in numbers]
    if a * d - b * c not in (1, -1):
        return None
    return (a, b, c, d, others[0][0] - a * px - b * py, others[0][1] - c * px - d * py)


def slow_alike(points, others):
    """Some whole map takes the corners of the one to those of the other, in whatever order these come to be."""
    ring, other_ring = slow_ring(points), slow_ring(others)
    if len(ring) != len(other_ring):
        return False
    for way in (other_ring, other_ring[::-1]):
        for start in range(len(way)):
            aim = way[start:] + way[:start]
            found = map_between(ring[:3], aim[:3])
            if found and moved(ring, found) == aim:
                return True
    return False


def slow_rows(points):
    """From each corner on, each place the third corner may be at tried out."""
    rows_found = []
    for ring in (slow_ring(points), slow_ring([(-x, y) for x, y in points])):
        for start in range(len(ring)):
            turned = ring[start:] + ring[:start]
            length = gcd(turned[1][0] - turned[0][0], turned[1][1] - turned[0][1])
            height = turn(*turned[:3]) // length
            maps = [map_between(turned[:3], [(0, 0), (length, 0), (length + more, height)]) for more in range(height)]
            (only,) = [found for found in maps if found]
            rows_found.append(moved(turned, only))
    return rows_found


def slow_form(points):
    return min(slow_rows(points))


def slow_dual(points):
    """The dual's corners, each searched for one by one, seen from the one whole point within."""
    ((mx, my),) = [point for point in box(points) if slow_within(points, point)]
    ring = [(x - mx, y - my) for x, y in slow_ring(points)]
    found = []
    for (ax, ay), (bx, by) in zip(ring, ring[1:] + ring[:1]):
        tried = [(u, v) for u in range(-45, 46) for v in range(-45, 46)]
        ((u, v),) = [(u, v) for u, v in tried if u * ax + v * ay == 1 and u * bx + v * by == 1]
        found.append((u, v))
    return found


def across(points, direction):
    values = [direction[0] * x + direction[1] * y for x, y in points]
    return max(values) - min(values)


def directions_to(greatest):
    """All directions with numbers up to the greatest, by their first number, then by their second."""
    return [(0, 1)] + [
        (p, q) for p in range(1, greatest + 1) for q in range(-greatest, greatest + 1) if gcd(p, q) == 1]


def in_one_line(points):
    return all(turn(*three) == 0 for three in combinations(points, 3))


def mixed_numbers(state):
    """Numbers without end, well mixed, always the same ones for one state."""
    while True:
        state = (state * 1103515245 + 12345) % 2147483648
        yield state >> 12


def sample_polygons(many, greatest):
    """Lists of 3 to 12 points, always the same ones, numbers from -greatest to greatest."""
    mixed = mixed_numbers(12345)
    samples = []
    while len(samples) < many:
        numbers = [next(mixed) % (2 * greatest + 1) - greatest for step in range(24)]
        points = list(zip(numbers[::2], numbers[1::2]))[:3 + len(samples) % 10]
        if not in_one_line(points):
            samples.append(points)
    return samples
