import unittest

from tests.helper import CORNERS, SIZE, ask, ask_last, begin, box, points_told, sample_polygons, slow_where


class Size(unittest.TestCase):
    def test_at_the_beginning(self):
        self.assertEqual(ask_last(SIZE), [0, 1, 3, 0])

    def test_ordinary_ones(self):
        self.assertEqual(ask_last(begin([(0, 0), (3, 0), (3, 2), (0, 2)]), SIZE), [0, 12, 10, 2])
        self.assertEqual(ask_last(begin([(-1, -1), (1, 0), (0, 1)]), SIZE), [0, 3, 3, 1])
        self.assertEqual(ask_last(begin([(0, 0), (4, 2), (2, 4)]), SIZE), [0, 12, 6, 4])

    def test_no_whole_point_within(self):
        self.assertEqual(ask_last(begin([(0, 0), (1, 0), (1, 1), (0, 1)]), SIZE), [0, 2, 4, 0])
        self.assertEqual(ask_last(begin([(-20, 3), (20, 3), (20, 4)]), SIZE), [0, 40, 42, 0])
        self.assertEqual(ask_last(begin([(0, 0), (2, 0), (0, 2)]), SIZE), [0, 4, 6, 0])

    def test_the_greatest(self):
        self.assertEqual(ask_last(begin([(-20, -20), (20, -20), (20, 20), (-20, 20)]), SIZE), [0, 3200, 160, 1521])

    def test_points_handed_in_that_are_no_corners_do_not_count(self):
        plain = begin([(0, 0), (6, 0), (0, 6)])
        crowded = begin([(0, 6), (1, 1), (0, 0), (3, 3), (6, 0), (2, 0), (0, 0), (2, 2)])
        self.assertEqual(ask(plain, SIZE)[1], ask(crowded, SIZE)[1])

    def test_against_a_count_one_by_one(self):
        for points in sample_polygons(40, 6):
            standings = [slow_where(points, point) for point in box(points)]
            told = ask_last(begin(points), SIZE)
            self.assertEqual(told[:1] + told[2:], [0, standings.count(1), standings.count(2)], points)

    def test_twice_the_area_against_triangles_from_the_first_corner(self):
        for points in sample_polygons(60, 20):
            corners = points_told(ask_last(begin(points), CORNERS))
            ax, ay = corners[0]
            area = 0
            for (bx, by), (cx, cy) in zip(corners[1:], corners[2:]):
                area += abs((bx - ax) * (cy - ay) - (cx - ax) * (by - ay))
            self.assertEqual(ask_last(begin(points), SIZE)[1], area, points)


if __name__ == "__main__":
    unittest.main()
