import unittest

from tests.helper import (
    CORNERS, FIRST, FORM, MAPS, SIZE, ask, ask_last, begin, moved, points_told, same, sample_polygons, slow_alike,
    slow_form, slow_rows, told)

SQUARE = [(0, 0), (2, 0), (2, 2), (0, 2)]
TWELVE = [(k, k * k - 20) for k in range(-6, 6)]
LARGE = [(-20, -20), (20, -20), (20, 20), (-20, 20)]
# Its mirrored form comes first, that of its own way round later.
CROOKED = [(0, 0), (0, 1), (2, 0), (3, 2)]


def form_of(points):
    return ask_last(begin(points), FORM)


class Form(unittest.TestCase):
    def test_at_the_beginning(self):
        self.assertEqual(ask_last(FORM), told([(0, 0), (1, 0), (1, 1)]))

    def test_ordinary_ones(self):
        self.assertEqual(form_of([(0, 0), (1, 0), (1, 1), (0, 1)]), told([(0, 0), (1, 0), (1, 1), (0, 1)]))
        self.assertEqual(form_of(SQUARE), told([(0, 0), (2, 0), (2, 2), (0, 2)]))
        self.assertEqual(form_of([(-1, -1), (1, 0), (0, 1)]), told([(0, 0), (1, 0), (2, 3)]))
        self.assertEqual(form_of([(0, 0), (0, 1), (1, 0), (2, 2)]), told([(0, 0), (1, 0), (1, 1), (-1, 2)]))

    def test_the_row_with_the_lesser_second_corner_comes_first(self):
        # Edges of 1, 2 and 3 whole steps: the form begins with a shortest one.
        self.assertEqual(form_of([(0, 0), (3, 0), (3, 1)])[:5], [3, 0, 0, 1, 0])
        self.assertEqual(form_of([(0, 0), (4, 0), (0, 2)])[:5], [3, 0, 0, 2, 0])

    def test_of_the_same_second_corner_that_with_the_lesser_third_one(self):
        for points in (CROOKED, [(0, 0), (1, 0), (3, 4), (-1, 3)]):
            rows = slow_rows(points)
            self.assertGreater(len({tuple(row[2]) for row in rows if row[1] == min(rows)[1]}), 1)
            self.assertEqual(form_of(points), told(min(rows)))

    def test_rows_of_the_mirrored_polygon_count_too(self):
        rows = slow_rows(CROOKED)
        own, mirrored = rows[:4], rows[4:]
        self.assertNotEqual(min(own), min(mirrored))
        self.assertEqual(form_of(CROOKED), told(min(rows)))
        self.assertEqual(form_of([(-x, y) for x, y in CROOKED]), told(min(rows)))

    def test_points_in_any_order_repeated_on_an_edge_and_within(self):
        self.assertEqual(form_of([(1, 1), (2, 2), (0, 0), (0, 1), (0, 2), (2, 0), (2, 2)]), form_of(SQUARE))
        self.assertEqual(form_of(TWELVE[::-1]), form_of(TWELVE[5:] + TWELVE[:5]))

    def test_many_corners(self):
        self.assertEqual(form_of(TWELVE), told(slow_form(TWELVE)))
        self.assertEqual(form_of(TWELVE)[0], 12)

    def test_numbers_of_20(self):
        self.assertEqual(form_of(LARGE), told([(0, 0), (40, 0), (40, 40), (0, 40)]))
        for points in ([(-20, -20), (20, 19), (19, 18)], [(-20, -20), (20, 17), (-7, -8)], LARGE[:2] + [(3, 20)]):
            self.assertEqual(form_of(points), told(slow_form(points)))

    def test_against_each_row_tried_out(self):
        for points in sample_polygons(100, 2) + sample_polygons(60, 5) + sample_polygons(20, 20):
            self.assertEqual(form_of(points), told(slow_form(points)), points)

    def test_as_the_words_tell_it(self):
        for points in sample_polygons(60, 20):
            form = points_told(form_of(points))
            self.assertEqual(form[0], (0, 0))
            self.assertTrue(form[1][0] > 0 and form[1][1] == 0, form)
            self.assertTrue(form[2][1] > 0 and 0 <= form[2][0] - form[1][0] < form[2][1], form)

    def test_the_polygon_stays_as_it_was(self):
        self.assertEqual(ask(begin(CROOKED), FORM, CORNERS), [[4], form_of(CROOKED), ask_last(begin(CROOKED), CORNERS)])


class PromiseTwo(unittest.TestCase):
    def test_alike_ones_have_one_form(self):
        for points in sample_polygons(30, 2) + [FIRST, SQUARE, CROOKED]:
            for whole_map in MAPS:
                self.assertEqual(form_of(moved(points, whole_map)), form_of(points), (points, whole_map))

    def test_the_form_of_a_form_is_the_same(self):
        for points in sample_polygons(40, 2):
            form = form_of(points)
            self.assertEqual(form_of(points_told(form)), form, points)

    def test_a_polygon_and_its_form_are_alike(self):
        for points in sample_polygons(40, 20):
            self.assertTrue(slow_alike(points, points_told(form_of(points))), points)

    def test_one_form_just_if_alike(self):
        samples = sample_polygons(40, 1) + sample_polygons(40, 2)
        forms = [form_of(points) for points in samples]
        alike_pairs = 0
        for place, points in enumerate(samples):
            for other_place in range(place):
                alike = slow_alike(points, samples[other_place])
                alike_pairs += alike
                self.assertEqual(forms[place] == forms[other_place], alike, (points, samples[other_place]))
                self.assertEqual(ask_last(begin(points), same(samples[other_place])), [int(alike)])
        self.assertGreater(alike_pairs, 50)

    def test_alike_ones_have_the_same_size(self):
        for points in sample_polygons(40, 2):
            self.assertEqual(ask_last(begin(points_told(form_of(points))), SIZE), ask_last(begin(points), SIZE))


if __name__ == "__main__":
    unittest.main()
