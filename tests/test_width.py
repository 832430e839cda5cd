import unittest

from tests.helper import (
    CORNERS, FIRST, MAPS, WIDTH, across, ask, ask_last, begin, box, directions_to, moved, sample_polygons, told)

LARGE = [(-20, -20), (20, -20), (20, 20), (-20, 20)]
DIRECTIONS_TO_16 = directions_to(16)
DIRECTIONS_TO_90 = directions_to(90)

# Long and thin and aslant, each with the narrowest directions.
THIN = [
    ([(-20, -20), (20, 19), (19, 18)], 1, [(1, -1), (38, -39), (39, -40)]),
    ([(-19, 20), (19, -19), (20, -20)], 1, [(1, 1), (39, 38), (40, 39)]),
    ([(19, -20), (20, 19), (20, 20)], 1, [(1, 0), (39, -1), (40, -1)]),
    ([(-20, -20), (20, 17), (-7, -8)], 1, [(12, -13), (25, -27), (37, -40)]),
    ([(-20, 9), (20, -16), (-3, -1)], 5, [(2, 3), (5, 8)]),
    ([(-13, -12), (13, 12), (-14, -13), (12, 11)], 1, [(12, -13)]),
]


def width_told(narrow, directions):
    return [len(directions), narrow] + told(directions)[1:]


def slow_width(points, directions):
    narrow = min(across(points, direction) for direction in directions)
    return width_told(narrow, [direction for direction in directions if across(points, direction) == narrow])


class Width(unittest.TestCase):
    def test_at_the_beginning(self):
        self.assertEqual(ask_last(WIDTH), [3, 1, 0, 1, 1, 0, 1, 1])

    def test_one_direction(self):
        self.assertEqual(ask_last(begin([(0, 0), (3, 0), (3, 2), (0, 2)]), WIDTH), [1, 2, 0, 1])
        self.assertEqual(ask_last(begin([(0, 0), (2, 0), (2, 3), (0, 3)]), WIDTH), [1, 2, 1, 0])
        self.assertEqual(ask_last(begin([(3, -3), (-1, 2), (0, -2)]), WIDTH), [1, 3, 1, 1])
        self.assertEqual(ask_last(begin([(3, 3), (-1, -2), (0, 2)]), WIDTH), [1, 3, 1, -1])

    def test_several_directions_by_their_first_number_then_by_their_second(self):
        self.assertEqual(ask_last(begin([(0, 0), (2, 0), (2, 2), (0, 2)]), WIDTH), [2, 2, 0, 1, 1, 0])
        self.assertEqual(ask_last(begin([(-3, -1), (1, 1), (-2, 0), (0, 0)]), WIDTH),
                         width_told(2, [(0, 1), (1, -3), (1, -2), (1, -1)]))
        self.assertEqual(ask_last(begin([(0, -1), (1, 0), (0, 1), (-1, 0)]), WIDTH),
                         width_told(2, [(0, 1), (1, -1), (1, 0), (1, 1)]))

    def test_points_in_any_order_repeated_on_an_edge_and_within(self):
        points = [(-1, 4), (-1, -2), (5, -3), (6, 6)]
        wanted = ask_last(begin(points), WIDTH)
        self.assertEqual(wanted, slow_width(points, DIRECTIONS_TO_16))
        for start in range(4):
            turned = points[start:] + points[:start]
            self.assertEqual(ask_last(begin(turned), WIDTH), wanted)
            self.assertEqual(ask_last(begin(turned[::-1] + [(-1, 1), (0, 0), (6, 6), (2, 1)]), WIDTH), wanted)

    def test_numbers_of_20(self):
        self.assertEqual(ask_last(begin(LARGE), WIDTH), [2, 40, 0, 1, 1, 0])
        self.assertEqual(ask_last(begin(LARGE[:3]), WIDTH), [3, 40, 0, 1, 1, -1, 1, 0])
        self.assertEqual(ask_last(begin([(-20, 0), (0, -20), (20, 0), (0, 20)]), WIDTH),
                         width_told(40, [(0, 1), (1, -1), (1, 0), (1, 1)]))

    def test_long_and_thin_and_aslant(self):
        for points, narrow, directions in THIN:
            self.assertEqual(ask_last(begin(points), WIDTH), width_told(narrow, directions))

    def test_the_polygon_stays_as_it_was(self):
        self.assertEqual(ask(WIDTH, CORNERS, WIDTH)[1], told(FIRST))
        self.assertEqual(ask(begin(LARGE), WIDTH, CORNERS, WIDTH),
                         [[4], [2, 40, 0, 1, 1, 0], told(LARGE), [2, 40, 0, 1, 1, 0]])


class PromiseFour(unittest.TestCase):
    def assert_as_searched(self, samples, directions):
        for points in samples:
            self.assertEqual(ask_last(begin(points), WIDTH), slow_width(points, directions), points)

    def test_small_ones_against_a_slow_search(self):
        self.assert_as_searched(sample_polygons(80, 2) + sample_polygons(80, 5), DIRECTIONS_TO_16)

    def test_great_ones_against_a_slow_search(self):
        self.assert_as_searched(sample_polygons(40, 20), directions_to(45))

    def test_triangles_and_thin_ones_against_a_slow_search(self):
        thin = [points for points, narrow, directions in THIN]
        self.assert_as_searched(thin + sample_polygons(31, 20)[::10], DIRECTIONS_TO_90)

    def test_thin_ones_each_way_round_against_a_slow_search(self):
        aslant = [[(-20, -20), (20, 20 - lower), (x, x - 1)] for lower in (1, 3, 7) for x in (-11, 2, 19)]
        turned = [moved(points, (0, -1, 1, 0, 0, 0)) for points in aslant]
        self.assert_as_searched(aslant + turned, directions_to(60))

    def test_whole_maps_keep_how_narrow_and_how_many_directions(self):
        for points in sample_polygons(20, 2) + [FIRST, box([(0, 0), (1, 2)])]:
            wanted = ask_last(begin(points), WIDTH)[:2]
            for whole_map in MAPS:
                self.assertEqual(ask_last(begin(moved(points, whole_map)), WIDTH)[:2], wanted, (points, whole_map))


if __name__ == "__main__":
    unittest.main()
