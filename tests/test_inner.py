import unittest

from tests.helper import INNER, SIZE, ask, ask_last, begin, box, sample_polygons, slow_within, told


class Inner(unittest.TestCase):
    def test_none_at_the_beginning(self):
        self.assertEqual(ask_last(INNER), [0])

    def test_no_whole_point_within(self):
        self.assertEqual(ask_last(begin([(-20, 3), (20, 3), (20, 4)]), INNER), [0])
        self.assertEqual(ask_last(begin([(0, 0), (2, 0), (0, 2)]), INNER), [0])
        self.assertEqual(ask_last(begin([(0, 0), (1, 1), (20, 19)]), INNER), [0])

    def test_just_one(self):
        self.assertEqual(ask_last(begin([(-1, -1), (1, 0), (0, 1)]), INNER), [1, 0, 0])

    def test_by_x_then_by_y(self):
        self.assertEqual(ask_last(begin([(-2, -2), (1, -2), (1, 2), (-2, 2)]), INNER),
                         told([(-1, -1), (-1, 0), (-1, 1), (0, -1), (0, 0), (0, 1)]))
        self.assertEqual(ask_last(begin([(0, 0), (4, 2), (2, 4)]), INNER), told([(1, 1), (2, 2), (2, 3), (3, 2)]))

    def test_the_greatest(self):
        wanted = [(x, y) for x in range(-19, 20) for y in range(-19, 20)]
        inner = ask_last(begin([(-20, -20), (20, -20), (20, 20), (-20, 20)]), INNER)
        # assertEqual would show how two such long lists differ, and that takes minutes.
        self.assertTrue(inner == told(wanted))

    def test_against_a_search_one_by_one(self):
        for points in sample_polygons(40, 6):
            wanted = [point for point in box(points) if slow_within(points, point)]
            self.assertEqual(ask_last(begin(points), INNER), told(wanted), points)

    def test_as_many_as_size_tells(self):
        for points in sample_polygons(40, 20):
            size, inner = ask(begin(points), SIZE, INNER)[1:]
            self.assertEqual(size[3], inner[0], points)
            self.assertEqual(len(inner), 1 + 2 * inner[0], points)


if __name__ == "__main__":
    unittest.main()
