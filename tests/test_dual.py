"""The calls dual and twelve, and promise 3."""

import unittest
from itertools import combinations
from math import gcd

from tests.helper import (
    CORNERS, DUAL, FIRST, FORM, INNER, MAPS, SIZE, TWELVE, WIDTH, ask, ask_last, begin, box, count, moved, points_told,
    sample_polygons, slow_dual, slow_form, slow_ring, slow_where, told)

TRIANGLE = [(-1, -1), (1, 0), (0, 1)]
GREAT_TRIANGLE = [(-1, -1), (2, -1), (-1, 2)]
SQUARE = [(-1, -1), (1, -1), (1, 1), (-1, 1)]
DIAMOND = [(-1, 0), (0, -1), (1, 0), (0, 1)]
HEXAGON = [(1, 0), (1, 1), (0, 1), (-1, 0), (-1, -1), (0, -1)]
FIVE = [(1, 0), (1, 1), (0, 1), (-1, 0), (0, -1)]
NONE_WITHIN = [FIRST, [(0, 0), (1, 0), (1, 1), (0, 1)], [(0, 0), (2, 0), (0, 2)], [(-20, 3), (20, 3), (20, 4)]]
MORE_WITHIN = [
    [(0, 0), (4, 2), (2, 4)], [(0, 0), (3, 0), (3, 2), (0, 2)], [(-20, -20), (20, -20), (20, 20), (-20, 20)],
    [(-1, 0), (0, -1), (2, 0), (0, 1)]]


def with_one_within():
    """Of each form that a polygon with just the origin within has one such polygon, by its form."""
    found = {}
    # A corner with a common divisor would have another whole point within, on its way to the origin.
    points = [(x, y) for x in range(-1, 4) for y in range(-1, 3) if gcd(x, y) == 1]
    for many in (3, 4, 5, 6):
        for some in combinations(points, many):
            corners, inner, form = ask(begin(some), INNER, FORM)
            if corners == [many] and inner == told([(0, 0)]):
                found.setdefault(tuple(form), list(some))
    return found


FOUND = with_one_within()


class Dual(unittest.TestCase):
    def test_ordinary_ones(self):
        self.assertEqual(ask_last(begin(TRIANGLE), DUAL), told([(0, 0), (3, 0), (3, 3)]))
        self.assertEqual(ask_last(begin(GREAT_TRIANGLE), DUAL), told([(0, 0), (1, 0), (2, 3)]))
        self.assertEqual(ask_last(begin(SQUARE), DUAL), told([(0, 0), (1, 0), (2, 2), (1, 2)]))
        self.assertEqual(ask_last(begin(DIAMOND), DUAL), told([(0, 0), (2, 0), (2, 2), (0, 2)]))
        self.assertEqual(ask_last(begin(HEXAGON), DUAL), ask_last(begin(HEXAGON), FORM))

    def test_the_one_form_of_what_each_edge_gives(self):
        for points in FOUND.values():
            self.assertEqual(ask_last(begin(points), DUAL), told(slow_form(slow_dual(points))), points)

    def test_the_one_within_elsewhere(self):
        for points in (TRIANGLE, GREAT_TRIANGLE, SQUARE, HEXAGON, FIVE):
            wanted = ask(begin(points), DUAL, TWELVE)
            for shift in ((18, 18), (-18, 18), (-3, 0), (0, -18), (7, -5)):
                elsewhere = moved(points, (1, 0, 0, 1) + shift)
                self.assertEqual(ask(begin(elsewhere), INNER, DUAL, TWELVE),
                                 [wanted[0], told([shift])] + wanted[1:], elsewhere)

    def test_numbers_of_20(self):
        corner = moved(TRIANGLE, (1, 0, 0, 1, 19, -19))
        self.assertEqual(ask(begin(corner), CORNERS, DUAL, TWELVE),
                         [[3], told([(18, -20), (20, -19), (19, -18)]), told([(0, 0), (3, 0), (3, 3)]), [0, 3, 9]])

    def test_long_and_aslant_ones(self):
        slanted = [moved(points, whole_map) for points in (TRIANGLE, GREAT_TRIANGLE, SQUARE, HEXAGON)
                   for whole_map in ((7, 5, 4, 3, 0, 0), (6, -5, 5, -4, 1, 0), (5, 2, 7, 3, -1, 2))]
        for points in slanted:
            self.assertEqual(ask(begin(points), INNER)[1][0], 1)
            self.assertEqual(ask_last(begin(points), DUAL), told(slow_form(slow_dual(points))), points)

    def test_points_in_any_order_repeated_on_an_edge_and_within(self):
        crowded = [(0, 0), (-1, 2), (0, 1), (2, -1), (-1, -1), (0, -1), (2, -1), (-1, 0)]
        self.assertEqual(ask(begin(crowded), DUAL, TWELVE), ask(begin(GREAT_TRIANGLE), DUAL, TWELVE))

    def test_alike_ones_have_one_dual(self):
        for points in FOUND.values():
            wanted = ask(begin(points), DUAL, TWELVE)
            for whole_map in MAPS:
                self.assertEqual(ask(begin(moved(points, whole_map)), DUAL, TWELVE), wanted, (points, whole_map))

    def test_the_polygon_stays_as_it_was(self):
        kept = ask(begin(FIVE), CORNERS, SIZE, FORM, DUAL, TWELVE)
        self.assertEqual(ask(begin(FIVE), DUAL, TWELVE, CORNERS, SIZE, FORM, DUAL, TWELVE),
                         [kept[0], kept[4], kept[5]] + kept[1:])


class Twelve(unittest.TestCase):
    def test_ordinary_ones(self):
        self.assertEqual(ask_last(begin(TRIANGLE), TWELVE), [0, 3, 9])
        self.assertEqual(ask_last(begin(GREAT_TRIANGLE), TWELVE), [0, 9, 3])
        self.assertEqual(ask_last(begin(SQUARE), TWELVE), [0, 8, 4])
        self.assertEqual(ask_last(begin(DIAMOND), TWELVE), [0, 4, 8])
        self.assertEqual(ask_last(begin(HEXAGON), TWELVE), [0, 6, 6])
        self.assertEqual(ask_last(begin(FIVE), TWELVE), [0, 5, 7])

    def test_against_a_count_one_by_one(self):
        for points in FOUND.values():
            dual = slow_dual(points)
            at_edges = [[slow_where(some, point) for point in box(some)].count(1) for some in (points, dual)]
            self.assertEqual(ask_last(begin(points), TWELVE), [0] + at_edges, points)


class Refusals(unittest.TestCase):
    def test_none_or_more_than_one_within(self):
        self.assertEqual(ask(DUAL, TWELVE, CORNERS), [[-4], [-4], told(FIRST)])
        for points in NONE_WITHIN + MORE_WITHIN:
            asked = [CORNERS, SIZE, count(2), WIDTH, FORM]
            kept = ask(begin(points), *asked)
            self.assertEqual(ask(begin(points), DUAL, TWELVE, *asked), [kept[0], [-4], [-4]] + kept[1:], points)

    def test_refused_just_if_not_one_is_within(self):
        for points in sample_polygons(100, 2) + sample_polygons(100, 1) + sample_polygons(30, 20):
            one_within = ask_last(begin(points), SIZE)[3] == 1
            dual, twelve = ask(begin(points), DUAL, TWELVE)[1:]
            self.assertEqual((dual != [-4], twelve != [-4]), (one_within, one_within), points)


class PromiseThree(unittest.TestCase):
    def test_there_are_sixteen_forms(self):
        self.assertEqual(len(FOUND), 16)

    def test_twelve_together(self):
        for points in FOUND.values():
            twelve = ask_last(begin(points), TWELVE)
            self.assertEqual(twelve[1] + twelve[2], 12, points)
            self.assertEqual(twelve[1], ask_last(begin(points), SIZE)[2], points)

    def test_the_dual_has_just_one_within_and_as_many_at_its_edge_as_told(self):
        for points in FOUND.values():
            dual, twelve = ask(begin(points), DUAL, TWELVE)[1:]
            size = ask_last(begin(points_told(dual)), SIZE)
            self.assertEqual((size[2], size[3]), (twelve[2], 1), points)

    def test_its_dual_has_the_polygons_form(self):
        for form, points in FOUND.items():
            dual = points_told(ask_last(begin(points), DUAL))
            self.assertEqual(ask(begin(dual), FORM, DUAL), [[len(dual)], told(dual), list(form)], points)

    def test_as_many_corners_as_the_polygon(self):
        for points in FOUND.values():
            self.assertEqual(ask_last(begin(points), DUAL)[0], len(slow_ring(points)))


if __name__ == "__main__":
    unittest.main()
