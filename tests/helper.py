"""What several tests use: calls put into one list, answers taken apart, and slow ways to count."""

from itertools import combinations

from wholepolygons.polygons import answers

FIRST = [(0, 0), (1, 0), (0, 1)]
GREATEST = 18446744073709551615

CORNERS = [2]
SIZE = [3]
INNER = [6]


def rows(plus, minus):
    return [len(plus)] + list(plus) + [len(minus)] + list(minus)


def point_rows(points, lift=0):
    """The two rows that tell these points; lift is put onto both numbers of each difference."""
    numbers = [number for point in points for number in point]
    plus = [max(number, 0) + lift for number in numbers]
    minus = [max(-number, 0) + lift for number in numbers]
    return rows(plus, minus)


def begin(points, lift=0):
    return [1] + point_rows(points, lift)


def where(point, lift=0):
    return [5] + point_rows([point], lift)


def count(k):
    return [4, k]


def ask(*calls):
    """The answers to these calls, one list for each."""
    given = answers([number for call in calls for number in call])
    apart = []
    place = 0
    while place < len(given):
        length = given[place]
        assert length > 0, given
        apart.append(given[place + 1:place + 1 + length])
        place += 1 + length
    assert place == len(given) and len(apart) == len(calls), given
    return apart


def ask_last(*calls):
    return ask(*calls)[-1]


def told(points):
    """How many points, then these."""
    return [len(points)] + [number for point in points for number in point]


def points_told(answer):
    points = list(zip(answer[1::2], answer[2::2]))
    assert told(points) == answer, answer
    return points


def turn(a, b, c):
    return (b[0] - a[0]) * (c[1] - a[1]) - (c[0] - a[0]) * (b[1] - a[1])


def in_triangle(point, three):
    a, b, c = three
    turns = (turn(a, b, point), turn(b, c, point), turn(c, a, point))
    if min(turns) < 0 < max(turns):
        return False
    return all(min(p[k] for p in three) <= point[k] <= max(p[k] for p in three) for k in (0, 1))


def slow_has(points, point):
    """Is the point in what lies between the points? It is just if it lies between three of them."""
    return any(in_triangle(point, three) for three in combinations((list(points) * 3)[:max(3, len(points))], 3))


def slow_within(points, point):
    """A point is within just if every line through it has points on both sides."""
    if not slow_has(points, point):
        return False
    for other in points:
        turns = [turn(point, other, third) for third in points]
        if other != point and not min(turns) < 0 < max(turns):
            return False
    return True


def slow_where(points, point):
    if slow_within(points, point):
        return 2
    return 1 if slow_has(points, point) else 0


def box(points, margin=0):
    xs = [x for x, y in points]
    ys = [y for x, y in points]
    return [
        (x, y)
        for x in range(min(xs) - margin, max(xs) + margin + 1)
        for y in range(min(ys) - margin, max(ys) + margin + 1)
    ]


def slow_corners(points):
    """Those points that the polygon doesn't have without them, in no told order."""
    apart = sorted(set(points))
    return [point for point in apart if not slow_has([p for p in apart if p != point], point)]


def in_one_line(points):
    return all(turn(*three) == 0 for three in combinations(points, 3))


def sample_polygons(many, greatest):
    """Lists of 3 to 12 points, always the same ones, numbers from -greatest to greatest."""
    state = 12345
    samples = []
    while len(samples) < many:
        numbers = []
        for step in range(24):
            state = (state * 1103515245 + 12345) % 2147483648
            numbers.append((state >> 12) % (2 * greatest + 1) - greatest)
        points = list(zip(numbers[::2], numbers[1::2]))[:3 + len(samples) % 10]
        if not in_one_line(points):
            samples.append(points)
    return samples
