import unittest

from tests.helper import (
    CORNERS, FIRST, GREATEST, INNER, SIZE, ask, ask_last, begin, count, rows, sample_polygons, slow_corners, told, where)

SQUARE = [(0, 0), (2, 0), (2, 2), (0, 2)]
TWELVE = [(k, k * k - 20) for k in range(-6, 6)]


def begin_rows(plus, minus):
    return [1] + rows(plus, minus)


class Begin(unittest.TestCase):
    def test_how_many_corners(self):
        self.assertEqual(ask_last(begin([(0, 0), (5, 1), (2, 4)])), [3])
        self.assertEqual(ask_last(begin(SQUARE)), [4])

    def test_points_in_any_order(self):
        self.assertEqual(ask_last(begin([(2, 2), (0, 0), (0, 2), (2, 0)])), [4])

    def test_points_repeated_on_an_edge_and_within_are_no_further_corners(self):
        self.assertEqual(ask_last(begin(SQUARE + [(2, 2), (0, 0)])), [4])
        self.assertEqual(ask_last(begin(SQUARE + [(1, 0), (2, 1), (1, 2), (0, 1)])), [4])
        self.assertEqual(ask_last(begin([(1, 1)] + SQUARE)), [4])

    def test_twelve_corners(self):
        self.assertEqual(ask_last(begin(TWELVE)), [12])

    def test_as_many_as_a_slow_count(self):
        for points in sample_polygons(60, 20) + sample_polygons(60, 3):
            self.assertEqual(ask_last(begin(points)), [len(slow_corners(points))], points)

    def test_numbers_are_differences(self):
        self.assertEqual(ask(begin_rows([7, 5, 9, 0, 3, 8], [7, 5, 4, 0, 8, 1]), CORNERS),
                         [[3], told([(-5, 7), (0, 0), (5, 0)])])

    def test_differences_of_the_greatest_numbers(self):
        points = [(-20, 20), (20, -20), (20, 20)]
        self.assertEqual(ask(begin(points, GREATEST - 20), CORNERS), [[3], told([(-20, 20), (20, -20), (20, 20)])])


class Refusals(unittest.TestCase):
    def assert_refused(self, call, number):
        """Refused by this number alone, and all is as it was, for the first polygon and for another."""
        # First, since inner would go on without end if a far point were taken.
        self.assertEqual(ask(call, CORNERS), [[number], told(FIRST)])
        for before in (FIRST, SQUARE):
            asked = [CORNERS, SIZE, count(3), where((1, 1)), INNER]
            kept = ask(begin(before), *asked)
            self.assertEqual(ask(begin(before), call, *asked), [kept[0], [number]] + kept[1:])

    def test_lists_unlike_many(self):
        self.assert_refused(begin_rows([0, 0, 1, 0, 0, 1], [0, 0, 0, 0]), -3)
        self.assert_refused(begin_rows([0, 0, 1, 0], [0, 0, 0, 0, 0, 0]), -3)
        self.assert_refused(begin_rows([0, 0, 3, 0, 0, 3], []), -3)
        self.assert_refused(begin_rows([], [0, 0, 3, 0, 0, 3]), -3)

    def test_odd_many(self):
        self.assert_refused(begin_rows([0, 0, 3, 0, 0, 3, 1], [0] * 7), -3)
        self.assert_refused(begin_rows([0], [0]), -3)

    def test_too_few_points(self):
        self.assert_refused(begin_rows([], []), -1)
        self.assert_refused(begin([(1, 1)]), -1)
        self.assert_refused(begin([(1, 1), (4, 5)]), -1)

    def test_too_many_points(self):
        self.assert_refused(begin(TWELVE + [(0, 0)]), -1)
        self.assert_refused(begin(SQUARE * 4), -1)
        self.assert_refused(begin_rows([1] * 60, [0] * 60), -1)

    def test_three_and_twelve_points_are_taken(self):
        self.assertEqual(ask_last(begin(SQUARE[:3])), [3])
        self.assertEqual(ask_last(begin(SQUARE * 3)), [4])

    def test_a_number_beyond_20(self):
        for number in (21, -21, 1000, -GREATEST, GREATEST):
            self.assert_refused(begin([(number, 0), (1, 0), (0, 1)]), -1)
            self.assert_refused(begin([(0, 0), (1, number), (0, 1)]), -1)
            self.assert_refused(begin([(0, 0), (1, 0), (0, 1), (0, number)]), -1)

    def test_20_is_taken(self):
        points = [(-20, -20), (20, -20), (20, 20), (-20, 20)]
        self.assertEqual(ask(begin(points), CORNERS), [[4], told(points)])

    def test_a_number_beyond_20_is_not_taken_around(self):
        self.assert_refused(begin_rows([0, 0, 0, 0, 0, 1], [0, 0, GREATEST, 0, 0, 0]), -1)

    def test_all_in_one_line(self):
        self.assert_refused(begin([(0, 0), (1, 0), (2, 0)]), -4)
        self.assert_refused(begin([(3, 0), (3, 5), (3, -20), (3, 20)]), -4)
        self.assert_refused(begin([(-20, -20), (20, 20), (0, 0), (7, 7)]), -4)
        self.assert_refused(begin([(4, -2), (-2, 1), (0, 0)]), -4)

    def test_repeated_points_all_in_one_line(self):
        self.assert_refused(begin([(5, 6)] * 3), -4)
        self.assert_refused(begin([(5, 6), (1, 2), (5, 6)]), -4)
        self.assert_refused(begin([(5, 6), (1, 1)] * 6), -4)

    def test_of_several_the_one_told_first(self):
        unlike_and_beyond = begin_rows([21, 0, 1, 0, 0, 1], [0, 0])
        odd_and_too_few = begin_rows([21, 0, 1], [0, 0, 0])
        odd_and_too_many = begin_rows([21] * 27, [0] * 27)
        self.assert_refused(unlike_and_beyond, -3)
        self.assert_refused(odd_and_too_few, -3)
        self.assert_refused(odd_and_too_many, -3)
        self.assert_refused(begin([(0, 0), (0, 21), (0, 5)]), -1)
        self.assert_refused(begin([(k, k) for k in range(13)]), -1)
        self.assert_refused(begin([(2, 2), (2, 2)]), -1)


if __name__ == "__main__":
    unittest.main()
