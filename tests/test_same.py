import unittest

from tests.helper import (
    CORNERS, DUAL, FIRST, FORM, GREATEST, INNER, MAPS, SIZE, TWELVE, WIDTH, ask, ask_last, begin, count, moved, rows,
    same, sample_polygons, slow_alike, told)

SQUARE = [(0, 0), (2, 0), (2, 2), (0, 2)]
KITE = [(0, 0), (0, 1), (1, 0), (2, 2)]
TWELVE_POINTS = [(k, k * k - 20) for k in range(-6, 6)]
LARGE = [(-20, -20), (20, -20), (20, 20), (-20, 20)]

# The same twice the area, edge and corners, yet not alike.
UNLIKE = [
    (KITE, [(0, 0), (0, 1), (2, 1), (2, 2)]),
    ([(0, 0), (0, 1), (1, 0), (1, 3)], [(0, 0), (0, 1), (2, 0), (2, 1)]),
    ([(0, 0), (0, 1), (1, 0), (3, 3)], [(0, 0), (0, 1), (1, 3), (2, 1)]),
    ([(0, 0), (0, 1), (2, 0), (2, 3)], SQUARE),
    ([(0, 0), (1, 0), (2, 7)], [(0, 0), (1, 0), (3, 7)]),
]


def same_rows(plus, minus):
    return [9] + rows(plus, minus)


class Same(unittest.TestCase):
    def assert_alike(self, points, others, wanted):
        self.assertEqual(ask_last(begin(points), same(others)), [wanted], (points, others))
        self.assertEqual(ask_last(begin(others), same(points)), [wanted], (others, points))

    def test_at_the_beginning(self):
        self.assertEqual(ask_last(same(FIRST)), [1])
        self.assertEqual(ask_last(same([(7, 7), (8, 8), (9, 10)])), [1])
        self.assertEqual(ask_last(same([(0, 0), (2, 0), (0, 2)])), [0])
        self.assertEqual(ask_last(same(SQUARE)), [0])

    def test_a_polygon_and_itself(self):
        for points in [FIRST, SQUARE, KITE, TWELVE_POINTS, LARGE] + sample_polygons(20, 20):
            self.assert_alike(points, points, 1)
            self.assert_alike(points, points[::-1], 1)

    def test_moved_mirrored_and_moved_by_a_whole_map(self):
        for points in [FIRST, SQUARE, KITE] + sample_polygons(20, 2):
            for whole_map in MAPS:
                self.assert_alike(points, moved(points, whole_map), 1)

    def test_mirrored_great_ones(self):
        for points in sample_polygons(20, 20) + [TWELVE_POINTS]:
            self.assert_alike(points, [(-x, y) for x, y in points], 1)
            self.assert_alike(points, [(x, -y) for x, y in points], 1)
            self.assert_alike(points, [(y, x) for x, y in points], 1)

    def test_a_map_that_cannot_be_taken_back(self):
        self.assert_alike(KITE, moved(KITE, (2, 0, 0, 1, 0, 0)), 0)
        self.assert_alike(KITE, moved(KITE, (2, 1, 1, 2, 0, 0)), 0)

    def test_same_area_edge_and_corners_but_not_alike(self):
        for points, others in UNLIKE:
            self.assertEqual(ask(begin(points), SIZE), ask(begin(others), SIZE))
            self.assertFalse(slow_alike(points, others))
            self.assert_alike(points, others, 0)

    def test_unlike_many_corners(self):
        self.assert_alike(SQUARE, SQUARE[:3], 0)
        self.assert_alike(TWELVE_POINTS, TWELVE_POINTS[:11], 0)

    def test_points_repeated_on_an_edge_and_within(self):
        self.assert_alike(SQUARE, SQUARE + [(1, 1), (2, 1), (0, 0), (2, 2)], 1)
        self.assert_alike([(2, 4), (4, 2), (0, 0), (1, 2), (2, 2)], [(0, 0), (2, 4), (4, 2), (0, 0)], 1)

    def test_differences_of_the_greatest_numbers(self):
        self.assertEqual(ask_last(begin(LARGE), same(LARGE, GREATEST - 20)), [1])
        self.assertEqual(ask_last(begin(SQUARE), same(LARGE, GREATEST - 20)), [0])

    def test_the_polygon_stays_as_it_was(self):
        asked = [CORNERS, SIZE, count(3), INNER, WIDTH, FORM, DUAL, TWELVE]
        for others in (SQUARE, KITE, TWELVE_POINTS):
            kept = ask(begin(KITE), *asked)
            answer = [1 if others == KITE else 0]
            self.assertEqual(ask(begin(KITE), same(others), *asked), [kept[0], answer] + kept[1:])
            self.assertEqual(ask(same(others), CORNERS), [[0], told(FIRST)])


class Refusals(unittest.TestCase):
    def assert_refused(self, call, number):
        asked = [CORNERS, SIZE, FORM, same(KITE)]
        for before in (FIRST, KITE):
            kept = ask(begin(before), *asked)
            self.assertEqual(ask(begin(before), call, *asked), [kept[0], [number]] + kept[1:])
        self.assertEqual(ask(call, CORNERS), [[number], told(FIRST)])

    def test_lists_unlike_many_or_odd_many(self):
        self.assert_refused(same_rows([0, 0, 1, 0, 0, 1], [0, 0, 0, 0]), -3)
        self.assert_refused(same_rows([], [0, 0, 3, 0, 0, 3]), -3)
        self.assert_refused(same_rows([0, 0, 3, 0, 0, 3], []), -3)
        self.assert_refused(same_rows([0, 0, 3, 0, 0, 3, 1], [0] * 7), -3)

    def test_too_few_or_too_many_points(self):
        self.assert_refused(same_rows([], []), -1)
        self.assert_refused(same([(0, 0), (1, 0)]), -1)
        self.assert_refused(same(TWELVE_POINTS + [(0, 0)]), -1)
        self.assert_refused(same_rows([1] * 60, [0] * 60), -1)

    def test_three_and_twelve_points_are_taken(self):
        self.assertEqual(ask_last(begin(SQUARE), same(SQUARE * 3)), [1])
        self.assertEqual(ask_last(begin(SQUARE), same(SQUARE[:3])), [0])

    def test_a_number_beyond_20(self):
        for number in (21, -21, GREATEST, -GREATEST):
            self.assert_refused(same([(number, 0), (1, 0), (0, 1)]), -1)
            self.assert_refused(same([(0, 0), (1, 0), (0, number)]), -1)

    def test_alike_but_beyond_20(self):
        self.assert_refused(same([(20, 20), (21, 20), (20, 21)]), -1)

    def test_all_in_one_line(self):
        self.assert_refused(same([(0, 0), (1, 2), (-3, -6), (2, 4)]), -4)
        self.assert_refused(same([(5, 6)] * 3), -4)

    def test_of_several_the_one_told_first(self):
        self.assert_refused(same_rows([21, 0, 1, 0, 0, 1], [0, 0]), -3)
        self.assert_refused(same_rows([21, 0, 1], [0, 0, 0]), -3)
        self.assert_refused(same_rows([0] * 27, [0] * 27), -3)
        self.assert_refused(same([(0, 0), (0, 21), (0, 5)]), -1)
        self.assert_refused(same([(2, 2)] * 13), -1)
        self.assert_refused(same([(2, 2), (2, 2)]), -1)


if __name__ == "__main__":
    unittest.main()
