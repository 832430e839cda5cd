import unittest

from tests.helper import (
    CORNERS, FIRST, GREATEST, ask, ask_last, begin, box, count, rows, sample_polygons, slow_where, told, where)

KITE = begin([(-4, 0), (0, -2), (4, 0), (0, 6)])


def where_rows(plus, minus):
    return [5] + rows(plus, minus)


class Where(unittest.TestCase):
    def test_at_the_beginning(self):
        for point in FIRST:
            self.assertEqual(ask_last(where(point)), [1])
        for point in ((1, 1), (-1, 0), (0, -1), (2, 0), (0, 2), (2, -1)):
            self.assertEqual(ask_last(where(point)), [0])

    def test_a_corner(self):
        for point in ((-4, 0), (0, -2), (4, 0), (0, 6)):
            self.assertEqual(ask_last(KITE, where(point)), [1])

    def test_on_an_edge(self):
        for point in ((-2, -1), (2, -1), (2, 3), (-2, 3)):
            self.assertEqual(ask_last(KITE, where(point)), [1])

    def test_within(self):
        for point in ((0, 0), (3, 0), (-3, 0), (0, 5), (0, -1), (1, 4), (-1, 4)):
            self.assertEqual(ask_last(KITE, where(point)), [2])

    def test_outside(self):
        for point in ((1, 5), (-1, 5), (3, 2), (-3, -1), (4, 1), (5, 0), (0, -3), (0, 7)):
            self.assertEqual(ask_last(KITE, where(point)), [0])

    def test_on_the_line_of_an_edge_but_outside(self):
        for point in ((-6, 1), (2, -3), (6, 1), (-2, 9), (8, -6)):
            self.assertEqual(ask_last(KITE, where(point)), [0])

    def test_far_outside(self):
        for far in (21, 10 ** 6, 2 ** 32, 2 ** 63, GREATEST):
            for point in ((far, 0), (-far, 0), (0, far), (0, -far), (far, far), (-far, -far), (far, -far)):
                self.assertEqual(ask_last(KITE, where(point)), [0])

    def test_differences_of_the_greatest_numbers(self):
        self.assertEqual(ask_last(KITE, where((0, 0), GREATEST)), [2])
        self.assertEqual(ask_last(KITE, where((-4, 0), GREATEST - 4)), [1])
        self.assertEqual(ask_last(KITE, where((5, 0), GREATEST - 5)), [0])

    def test_each_point_round_about(self):
        for points in sample_polygons(30, 5):
            around = box(points, 2)
            for start in range(0, len(around), 39):
                some = around[start:start + 39]
                told_some = ask(begin(points), *[where(point) for point in some])[1:]
                self.assertEqual(told_some, [[slow_where(points, point)] for point in some], points)


class Refusals(unittest.TestCase):
    def assert_refused(self, plus, minus):
        self.assertEqual(ask(KITE, where_rows(plus, minus), where((0, 0)), CORNERS, count(1)),
                         [[4], [-3], [2], told([(-4, 0), (0, -2), (4, 0), (0, 6)]), [37]])

    def test_lists_unlike_many(self):
        self.assert_refused([0, 0], [0])
        self.assert_refused([0], [0, 0])
        self.assert_refused([0, 0], [])
        self.assert_refused([], [0, 0])
        self.assert_refused([0, 0], [0, 0, 0, 0])
        self.assert_refused([0, 0, 0, 0], [0, 0])

    def test_odd_many(self):
        self.assert_refused([0], [0])
        self.assert_refused([0, 0, 0], [0, 0, 0])

    def test_not_one_point(self):
        self.assert_refused([], [])
        self.assert_refused([0, 0, 0, 0], [0, 0, 0, 0])
        self.assert_refused([GREATEST] * 60, [GREATEST] * 60)


if __name__ == "__main__":
    unittest.main()
