import unittest

from tests.helper import (
    CORNERS, DUAL, FIRST, FORM, GREATEST, INNER, SIZE, TWELVE, WIDTH, ask, ask_last, begin, box, count, moved,
    points_told, same, sample_polygons, slow_has, slow_where, told, where)


def slow_count(points, k):
    larger = [(x * k, y * k) for x, y in points]
    return len([point for point in box(larger) if slow_has(larger, point)])


class Count(unittest.TestCase):
    def test_at_the_beginning(self):
        for k in (0, 1, 2, 3, 10, 999, 1000):
            self.assertEqual(ask_last(count(k)), [(k + 1) * (k + 2) // 2])

    def test_none_times_as_large_is_one_point(self):
        for points in sample_polygons(20, 20):
            self.assertEqual(ask_last(begin(points), count(0)), [1])

    def test_a_thousand_times_as_large(self):
        self.assertEqual(ask_last(begin([(-20, -20), (20, -20), (20, 20), (-20, 20)]), count(1000)), [40001 * 40001])
        self.assertEqual(ask_last(begin([(-1, -1), (1, 0), (0, 1)]), count(1000)), [1501501])

    def test_k_above_1000(self):
        for k in (1001, 1002, 65536, 2 ** 63, GREATEST):
            self.assertEqual(ask(count(k), count(1000), CORNERS, SIZE), [[-1], [501501], told(FIRST), [0, 1, 3, 0]])

    def test_k_that_looks_like_another_call(self):
        self.assertEqual(ask(count(2), count(3), count(4), CORNERS), [[6], [10], [15], told(FIRST)])


class PromiseOne(unittest.TestCase):
    def test_against_a_count_one_by_one(self):
        for points in sample_polygons(20, 4) + [FIRST]:
            for k in range(4):
                self.assertEqual(ask_last(begin(points), count(k)), [slow_count(points, k)], (points, k))

    def test_larger_k_against_a_count_one_by_one(self):
        for points in ([(0, 0), (3, 1), (1, 2)], [(-1, -1), (2, -1), (1, 2), (-1, 1)], [(0, 0), (1, 3), (2, 1)]):
            for k in (5, 8, 11):
                self.assertEqual(ask_last(begin(points), count(k)), [slow_count(points, k)], (points, k))

    def test_area_edge_and_one_together(self):
        for points in sample_polygons(40, 20):
            size = ask_last(begin(points), SIZE)
            for k in (0, 1, 2, 7, 100, 999, 1000):
                twice = 2 * ask_last(begin(points), count(k))[0]
                self.assertEqual(twice, k * k * size[1] + k * size[2] + 2, (points, k))

    def test_once_as_large_it_has_those_at_its_edge_and_within(self):
        for points in sample_polygons(40, 20):
            size = ask_last(begin(points), SIZE)
            self.assertEqual(ask_last(begin(points), count(1)), [size[2] + size[3]], points)

    def test_thin_and_great_ones_against_a_count_one_by_one(self):
        thin = [[(-20, -20), (20, 19), (19, 18)], [(-20, 20), (20, -17), (3, 0)]]
        for points in thin + [[(-20, -20), (20, -20), (3, 20)]]:
            self.assertEqual(ask_last(begin(points), count(1)), [slow_count(points, 1)], points)

    def test_whatever_else_is_asked_between(self):
        between = [CORNERS, SIZE, INNER, where((0, 0)), WIDTH, FORM, same([(0, 0), (5, 1), (2, 4)]), DUAL, TWELVE]
        for points in sample_polygons(10, 3):
            mixed = [call for other in between for call in (other, count(2))]
            answers = ask(begin(points), *mixed)
            self.assertEqual(answers[2::2], [[slow_count(points, 2)]] * len(between), points)

    def test_the_form_and_the_dual_too(self):
        for points in sample_polygons(40, 1):
            form, dual = ask(begin(points), FORM, DUAL)[1:]
            for other in (form, dual):
                if other != [-4]:
                    row = points_told(other)
                    self.assertEqual(ask_last(begin(row), count(3)), [slow_count(row, 3)], row)

    def test_alike_ones_have_as_many(self):
        for points in sample_polygons(20, 3):
            other = moved(points, (2, 1, 3, 2, 1, 0))
            for k in (0, 1, 6, 1000):
                self.assertEqual(ask_last(begin(other), count(k)), ask_last(begin(points), count(k)), (points, k))

    def test_each_point_counted_stands_within_or_at_the_edge(self):
        for points in sample_polygons(10, 4):
            size, inner = ask(begin(points), SIZE, INNER)[1:]
            standings = [slow_where(points, point) for point in box(points)]
            self.assertEqual((standings.count(1), standings.count(2)), (size[2], inner[0]), points)
            self.assertEqual(ask_last(begin(points), count(1)), [len(standings) - standings.count(0)], points)


if __name__ == "__main__":
    unittest.main()
