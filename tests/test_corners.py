import unittest

from tests.helper import (
    CORNERS, FIRST, ask, ask_last, begin, points_told, sample_polygons, slow_corners, told, turn)


class Corners(unittest.TestCase):
    def test_at_the_beginning(self):
        self.assertEqual(ask_last(CORNERS), [3, 0, 0, 1, 0, 0, 1])

    def test_counterclockwise_from_the_least_x_then_the_least_y(self):
        self.assertEqual(ask_last(begin([(2, 2), (0, 2), (2, 0), (0, 0)]), CORNERS),
                         told([(0, 0), (2, 0), (2, 2), (0, 2)]))
        self.assertEqual(ask_last(begin([(0, 3), (3, 0), (0, -3), (-3, 0)]), CORNERS),
                         told([(-3, 0), (0, -3), (3, 0), (0, 3)]))

    def test_whichever_way_round_they_were_handed_in(self):
        points = [(-1, 4), (-1, -2), (5, -3), (6, 6)]
        wanted = told([(-1, -2), (5, -3), (6, 6), (-1, 4)])
        for start in range(4):
            turned = points[start:] + points[:start]
            self.assertEqual(ask_last(begin(turned), CORNERS), wanted)
            self.assertEqual(ask_last(begin(turned[::-1]), CORNERS), wanted)

    def test_no_point_on_an_edge_or_within_and_none_twice(self):
        points = [(1, 1), (0, 0), (4, 0), (0, 0), (2, 0), (4, 4), (4, 1), (2, 2), (3, 1), (4, 4), (1, 0), (4, 0)]
        self.assertEqual(ask_last(begin(points), CORNERS), told([(0, 0), (4, 0), (4, 4)]))

    def test_those_that_the_polygon_does_not_have_without(self):
        for points in sample_polygons(80, 20) + sample_polygons(80, 2) + sample_polygons(80, 5):
            corners = points_told(ask_last(begin(points), CORNERS))
            self.assertEqual(sorted(corners), slow_corners(points), points)
            self.assertEqual(corners[0], min(points))
            for place, corner in enumerate(corners):
                following = corners[(place + 1) % len(corners)]
                others = [other for other in corners if other not in (corner, following)]
                self.assertTrue(all(turn(corner, following, other) > 0 for other in others), points)

    def test_asked_again_they_are_the_same(self):
        self.assertEqual(ask(CORNERS, CORNERS), [told(FIRST)] * 2)


if __name__ == "__main__":
    unittest.main()
