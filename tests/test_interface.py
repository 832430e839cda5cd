import contextlib
import inspect
import io
import unittest

from tests.helper import (
    CORNERS, DUAL, FIRST, FORM, GREATEST, INNER, SIZE, TWELVE, WIDTH, ask, begin, count, mixed_numbers, rows, same,
    told, where)
from wholepolygons.polygons import answers

SQUARE = [(-1, -1), (1, -1), (1, 1), (-1, 1)]
MIXED = (
    CORNERS + begin(SQUARE) + SIZE + INNER + count(2) + count(1001) + where((1, 0)) + [5] + rows([], [])
    + begin([(0, 0), (1, 1), (2, 2)]) + CORNERS + WIDTH + FORM + same(SQUARE) + same(FIRST) + [9] + rows([1], [1])
    + DUAL + TWELVE + begin(FIRST) + CORNERS + DUAL + TWELVE + same(SQUARE) + WIDTH + FORM
)
MIXED_ANSWERS = (
    [7, 3, 0, 0, 1, 0, 0, 1] + [1, 4] + [4, 0, 8, 8, 1] + [3, 1, 0, 0] + [1, 25] + [1, -1] + [1, 1] + [1, -3]
    + [1, -4] + [9, 4, -1, -1, 1, -1, 1, 1, -1, 1] + [6, 2, 2, 0, 1, 1, 0] + [9, 4, 0, 0, 2, 0, 2, 2, 0, 2] + [1, 1]
    + [1, 0] + [1, -3] + [9, 4, 0, 0, 1, 0, 2, 2, 1, 2] + [3, 0, 8, 4] + [1, 3] + [7, 3, 0, 0, 1, 0, 0, 1] + [1, -4]
    + [1, -4] + [1, 0] + [8, 3, 1, 0, 1, 1, 0, 1, 1] + [7, 3, 0, 0, 1, 0, 1, 1]
)

DIAMOND = [(-1, 0), (0, -1), (1, 0), (0, 1)]
LONG = [(0, 0), (3, 0), (3, 2), (0, 2)]
ASKED = [CORNERS, SIZE, count(2), where((1, 0)), INNER, WIDTH, FORM, same(SQUARE), DUAL, TWELVE]
# What each polygon answers to these, in the same order.
KNOWN = [
    (FIRST, [told(FIRST), [0, 1, 3, 0], [6], [1], [0], [3, 1, 0, 1, 1, 0, 1, 1], told([(0, 0), (1, 0), (1, 1)]), [0],
             [-4], [-4]]),
    (SQUARE, [told(SQUARE), [0, 8, 8, 1], [25], [1], [1, 0, 0], [2, 2, 0, 1, 1, 0],
              told([(0, 0), (2, 0), (2, 2), (0, 2)]), [1], told([(0, 0), (1, 0), (2, 2), (1, 2)]), [0, 8, 4]]),
    (DIAMOND, [told(DIAMOND), [0, 4, 4, 1], [13], [1], [1, 0, 0], [4, 2, 0, 1, 1, -1, 1, 0, 1, 1],
               told([(0, 0), (1, 0), (2, 2), (1, 2)]), [0], told([(0, 0), (2, 0), (2, 2), (0, 2)]), [0, 4, 8]]),
    (LONG, [told(LONG), [0, 12, 10, 2], [35], [1], [2, 1, 1, 2, 1], [1, 2, 0, 1],
            told([(0, 0), (2, 0), (2, 3), (0, 3)]), [0], [-4], [-4]]),
]


def mixed_calls(state):
    """Forty calls in some order, all eleven among them, begin coming again between them, and their answers."""
    mixed = mixed_numbers(state)
    places = sorted(list(range(len(ASKED))) * 3 + [None] * 10, key=lambda place: next(mixed))
    calls, wanted = [], []
    known = KNOWN[0][1]
    for place in places:
        if place is None:
            points, known = KNOWN[next(mixed) % len(KNOWN)]
            calls.append(begin(points))
            wanted.append([len(points)])
        else:
            calls.append(ASKED[place])
            wanted.append(known[place])
    return calls, wanted


def refuse(*handed, **named):
    raise RuntimeError("the list handed in was changed")


class Unchanging(list):
    """A list that cannot be changed, not for a while either."""
    append = clear = extend = insert = pop = remove = reverse = sort = refuse
    __setitem__ = __delitem__ = __iadd__ = __imul__ = refuse


class Interface(unittest.TestCase):
    def test_name_and_argument(self):
        self.assertEqual(list(inspect.signature(answers).parameters), ["calls"])

    def test_how_many_numbers_ahead_of_each_answer(self):
        self.assertEqual(answers([2]), [7, 3, 0, 0, 1, 0, 0, 1])
        self.assertEqual(answers([3]), [4, 0, 1, 3, 0])
        self.assertEqual(answers([4, 1]), [1, 3])
        self.assertEqual(answers([6]), [1, 0])
        self.assertEqual(answers([1, 6, 0, 0, 2, 0, 0, 2, 6, 0, 0, 0, 0, 0, 0]), [1, 3])
        self.assertEqual(answers([5, 2, 1, 0, 2, 0, 0]), [1, 1])
        self.assertEqual(answers([7]), [8, 3, 1, 0, 1, 1, 0, 1, 1])
        self.assertEqual(answers([8]), [7, 3, 0, 0, 1, 0, 1, 1])
        self.assertEqual(answers([9, 6, 0, 0, 2, 0, 0, 2, 6, 0, 0, 0, 0, 0, 0]), [1, 0])
        self.assertEqual(answers(begin(SQUARE) + [10]), [1, 4, 9, 4, 0, 0, 1, 0, 2, 2, 1, 2])
        self.assertEqual(answers(begin(SQUARE) + [11]), [1, 4, 3, 0, 8, 4])

    def test_a_refusal_is_its_number_alone(self):
        self.assertEqual(answers([1, 0, 0]), [1, -1])
        self.assertEqual(answers([1, 1, 0, 0]), [1, -3])
        self.assertEqual(answers([1, 6] + [0] * 6 + [6] + [0] * 6), [1, -4])
        self.assertEqual(answers([4, GREATEST]), [1, -1])
        self.assertEqual(answers([5, 0, 0]), [1, -3])
        self.assertEqual(answers([9, 0, 0]), [1, -1])
        self.assertEqual(answers([9, 1, 0, 0]), [1, -3])
        self.assertEqual(answers([9, 6] + [0] * 6 + [6] + [0] * 6), [1, -4])
        self.assertEqual(answers([10]), [1, -4])
        self.assertEqual(answers([11]), [1, -4])

    def test_several_calls_in_one_list(self):
        self.assertEqual(answers(list(MIXED)), MIXED_ANSWERS)

    def test_forty_calls(self):
        self.assertEqual(ask(*[CORNERS, SIZE] * 20), [told(FIRST), [0, 1, 3, 0]] * 20)

    def test_begin_comes_again(self):
        self.assertEqual(ask(begin(SQUARE), SIZE, begin(FIRST), SIZE, begin(SQUARE), SIZE),
                         [[4], [0, 8, 8, 1], [3], [0, 1, 3, 0], [4], [0, 8, 8, 1]])

    def test_another_call_than_begin_comes_first(self):
        for call, wanted in ((CORNERS, told(FIRST)), (SIZE, [0, 1, 3, 0]), (count(2), [6]), (INNER, [0]),
                             (where((1, 0)), [1]), (WIDTH, [3, 1, 0, 1, 1, 0, 1, 1]), (FORM, [3, 0, 0, 1, 0, 1, 1]),
                             (same(FIRST), [1]), (DUAL, [-4]), (TWELVE, [-4])):
            self.assertEqual(ask(call, begin(SQUARE), call)[0], wanted)

    def test_all_eleven_calls_in_their_order_and_from_behind(self):
        for points, wanted in KNOWN:
            self.assertEqual(ask(begin(points), *ASKED), [[len(points)]] + wanted)
            self.assertEqual(ask(begin(points), *ASKED[::-1]), [[len(points)]] + wanted[::-1])

    def test_all_eleven_calls_with_begin_between(self):
        calls, wanted = [], []
        for points, known in KNOWN[1:]:
            calls += [begin(points)] + ASKED
            wanted += [[len(points)]] + known
        self.assertEqual(ask(*calls), wanted)

    def test_all_eleven_calls_in_many_orders(self):
        for state in range(60):
            calls, wanted = mixed_calls(state)
            numbers = [number for call in calls for number in call]
            before = list(numbers)
            self.assertEqual(ask(*calls), wanted, state)
            self.assertEqual(answers(numbers), answers(numbers), state)
            self.assertEqual(numbers, before, state)

    def test_the_longest_rows_and_refusals_leave_the_next_call_to_be_found(self):
        longest = rows([GREATEST] * 60, [0] * 60)
        self.assertEqual(ask([9] + longest, CORNERS, [1] + longest, FORM, [5] + longest, WIDTH),
                         [[-1], told(FIRST), [-1], [3, 0, 0, 1, 0, 1, 1], [-3], [3, 1, 0, 1, 1, 0, 1, 1]])

    def test_nothing_is_kept_from_one_time_to_the_next(self):
        calls = list(MIXED)
        self.assertEqual(answers(calls), MIXED_ANSWERS)
        self.assertEqual(answers(calls), MIXED_ANSWERS)
        answers(begin(SQUARE))
        self.assertEqual(answers([2]), [7, 3, 0, 0, 1, 0, 0, 1])

    def test_an_answer_that_is_changed_changes_no_later_one(self):
        answers([2]).clear()
        self.assertEqual(answers([2]), [7, 3, 0, 0, 1, 0, 0, 1])

    def test_the_list_handed_in_stays_as_it_was(self):
        calls = list(MIXED)
        answers(calls)
        self.assertEqual(calls, MIXED)

    def test_the_list_handed_in_is_not_changed_for_a_while_either(self):
        self.assertEqual(answers(Unchanging(MIXED)), MIXED_ANSWERS)

    def test_what_is_given_back_is_a_list_of_whole_numbers(self):
        given = answers(list(MIXED))
        self.assertIs(type(given), list)
        self.assertEqual({type(number) for number in given}, {int})

    def test_nothing_is_printed(self):
        out, err = io.StringIO(), io.StringIO()
        with contextlib.redirect_stdout(out), contextlib.redirect_stderr(err):
            answers(list(MIXED))
        self.assertEqual((out.getvalue(), err.getvalue()), ("", ""))


if __name__ == "__main__":
    unittest.main()
