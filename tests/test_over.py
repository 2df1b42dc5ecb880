"""Tests of threadrow.desk.over."""

import inspect
import itertools
import unittest

from helpers import FARTHEST, TURNS, Untouchable, changed, drawings, drawn_rows, from_other_end, row_of, rows_of
from helpers import rows_share_a_point, told_aside
from threadrow import desk
from threadrow.desk import over, touch


def answer_wanted(shapes):
    """Told another way than the program's: by exact fractions, pair by pair."""
    numbers = [0] * len(shapes)
    pairs = 0
    for (i, one), (j, other) in itertools.combinations(enumerate(shapes), 2):
        if any(rows_share_a_point(row, another) for row in one for another in other):
            numbers[j] += 2 ** i
            pairs += 1
    return [pairs] + numbers


def bar(height, width=10):
    """A level stitch."""
    return [0, height, width, height]


def post(x, low, high):
    """An upright stitch."""
    return [x, low, x, high]


def far(number):
    """A row that lies apart from what the tests draw, and from those of other numbers."""
    return [1000 + 10 * number, 1000, 1005 + 10 * number, 1003]


class OverCase(unittest.TestCase):
    def check(self, shapes, answer):
        """The answer, with the rows gone through from either end."""
        self.assertEqual(over(rows_of(shapes)), answer)
        self.assertEqual(over(rows_of([[from_other_end(row) for row in shape] for shape in shapes])), answer)

    def check_refused(self, shapes):
        self.check(shapes, [-1])


class FewShapes(OverCase):
    def test_no_rows_at_all(self):
        self.assertEqual(over([]), [-1])

    def test_one_shape_of_one_row(self):
        self.assertEqual(over([[5, 0, 0, 10, 0]]), [0, 0])
        self.assertEqual(over([[5, 0, 0]]), [0, 0])

    def test_two_that_touch(self):
        self.check([[[0, 0, 10, 0]], [[5, 0, 5, 9]]], [1, 0, 1])
        self.check([[[0, 0, 10, 10]], [[4, 4]]], [1, 0, 1])
        self.check([[[4, 4]], [[4, 4]]], [1, 0, 1])
        self.check([[[4, 4, 4, 4]], [[0, 8, 8, 0]]], [1, 0, 1])

    def test_two_that_do_not(self):
        self.check([[[0, 0, 10, 0]], [[11, 0, 20, 0]]], [0, 0, 0])
        self.check([[[4, 4]], [[4, 5]]], [0, 0, 0])

    def test_two_that_touch_by_their_second_or_last_row_only(self):
        one = [bar(0), bar(2), bar(4)]
        self.check([one, [post(20, 0, 9), post(5, 2, 3)]], [1, 0, 1])
        self.check([one, [post(20, 0, 9), post(30, 0, 9), post(5, 4, 9)]], [1, 0, 1])
        self.check([[post(20, 0, 9), post(5, 2, 3)], one], [1, 0, 1])
        self.check([one, [post(5, 0, 1), post(20, 0, 9)]], [1, 0, 1])
        self.check([one, [post(20, 0, 9), post(5, 3, 3), post(5, 5, 9)]], [0, 0, 0])

    def test_by_one_row_of_each_alone(self):
        for place, other_place in itertools.product(range(3), repeat=2):
            one, other = [far(0), far(1), far(2)], [far(3), far(4), far(5)]
            one[place], other[other_place] = bar(0), post(5, 0, 9)
            self.check([one, other], [1, 0, 1])
            other[other_place] = post(5, 1, 9)
            self.check([one, other], [0, 0, 0])

    def test_a_shapes_own_rows_make_no_pair(self):
        self.check([[bar(0), post(5, 0, 9), bar(0)]], [0, 0])
        self.check([[bar(0), post(5, 0, 9)], [far(0), far(0)]], [0, 0, 0])

    def test_many_stitches_of_two_shapes_that_touch_are_one_pair(self):
        self.check([[bar(0), bar(2)], [post(3, 0, 9), post(5, 0, 9)]], [1, 0, 1])
        self.check([[[0, 0, 9, 0, 0, 0, 9, 0]], [[0, 0, 9, 0, 0, 0, 9, 0]]], [1, 0, 1])

    def test_no_stitch_from_a_row_to_the_next(self):
        self.check([[[0, 0, 0, 10], [10, 10, 10, 0]], [[5, 10]]], [0, 0, 0])
        self.check([[[0, 0], [10, 0]], [[5, 0]], [[5, 0]]], [1, 0, 0, 2])
        self.check([[[0, 0]], [[10, 0]], [[5, 0]]], [0, 0, 0, 0])

    def test_no_stitch_from_the_last_hole_back_to_the_first(self):
        self.check([[[0, 0, 10, 0, 10, 10]], [[4, 4, 5, 6]]], [0, 0, 0])


class SeveralShapes(OverCase):
    def test_what_the_readme_shows(self):
        self.assertEqual(over([[7, 0, 0, 10, 0], [9, 5, 0, 5, 9]]), [1, 0, 1])
        rows = [[7, 0, 0, 10, 0], [-1, 0, 4, 10, 4], [9, 5, 5, 5, 9], [7, 3, 4, 8, 8]]
        self.assertEqual(over(rows), [2, 0, 0, 3])

    def test_four_shapes_of_several_rows(self):
        shapes = [
            [bar(0), bar(2)],
            [post(3, 2, 8), far(0), far(1)],
            [bar(8), bar(12), bar(14)],
            [far(2), post(20, 0, 30), [10, 0, 12, 12, 9, 14]],
        ]
        self.check(shapes, [4, 0, 1, 2, 1 + 4])

    def test_six_shapes_of_several_rows(self):
        shapes = [
            [bar(0)],
            [bar(10), far(0)],
            [post(1, 0, 9), post(2, 1, 10)],
            [[20, 20]],
            [far(1), post(6, -5, 15)],
            [far(2), far(0), [15, 20, 25, 20], post(2, 9, 12)],
        ]
        self.check(shapes, [7, 0, 0, 1 + 2, 0, 1 + 2, 2 + 4 + 8])

    def test_twelve_that_all_touch(self):
        numbers = [0, 1, 3, 7, 15, 31, 63, 127, 255, 511, 1023, 2047]
        self.check([[[0, 0, k, 10]] for k in range(12)], [66] + numbers)
        self.check([[far(k), [0, 0, k, 10]] for k in range(12)], [66] + numbers)
        self.check([[[3, 3]]] * 12, [66] + numbers)

    def test_twelve_that_do_not_touch_at_all(self):
        self.check([[bar(k)] for k in range(12)], [0] + [0] * 12)
        self.check([[bar(k), bar(k + 20)] for k in range(12)], [0] + [0] * 12)

    def test_a_shape_that_touches_the_first_and_the_last_only(self):
        shapes = [[bar(0)], [far(0)], [bar(0, 3), post(5, 0, 9)], [far(2)], [post(5, 9, 12)]]
        self.check(shapes, [2, 0, 0, 1, 0, 4])
        wide = [[bar(0)]] + [[far(k)] for k in range(10)] + [[bar(9)]]
        for place in range(1, 11):
            drawing = list(wide)
            drawing[place] = [post(5, 0, 9)]
            numbers = [0] * 12
            numbers[place] = 1
            numbers[11] = 2 ** place
            self.check(drawing, [2] + numbers)

    def test_the_drawn_order_tells_which_comes_before(self):
        shapes = [[bar(0)], [post(3, 0, 9)], [far(0)]]
        self.check([shapes[0], shapes[1], shapes[2]], [1, 0, 1, 0])
        self.check([shapes[1], shapes[0], shapes[2]], [1, 0, 1, 0])
        self.check([shapes[0], shapes[2], shapes[1]], [1, 0, 0, 1])
        self.check([shapes[2], shapes[0], shapes[1]], [1, 0, 0, 2])
        self.check([shapes[2], shapes[1], shapes[0]], [1, 0, 0, 2])

    def test_touching_is_not_handed_on(self):
        self.check([[bar(0)], [post(3, 0, 9)], [bar(9)]], [2, 0, 1, 2])

    def test_each_bit_alone(self):
        for how_many in (5, 12):
            for i, j in itertools.combinations(range(how_many), 2):
                shapes = [[far(k)] for k in range(how_many)]
                shapes[i], shapes[j] = [bar(0), far(i)], [far(j), post(5, 0, 9)]
                numbers = [0] * how_many
                numbers[j] = 2 ** i
                self.check(shapes, [1] + numbers)


class AgainstAnotherWay(OverCase):
    def test_drawings(self):
        pairs = []
        for shapes in drawings():
            answer = answer_wanted(shapes)
            self.assertEqual(over(rows_of(shapes)), answer, shapes)
            pairs.append(answer[0])
        self.assertGreater(len(set(pairs)), 20)

    def test_it_agrees_with_touch(self):
        for one, other in itertools.product(drawn_rows(40), repeat=2):
            number = touch(one, other)[0]
            self.assertEqual(over(rows_of([[one], [other]])), [number, 0, number], (one, other))


class HowManyShapes(OverCase):
    def test_twelve_are_answered(self):
        self.assertEqual(len(over(rows_of([[bar(k)] for k in range(12)]))), 13)

    def test_thirteen_are_refused(self):
        self.check_refused([[bar(k)] for k in range(13)])
        self.check_refused([[[0, 0]]] * 13)
        self.check_refused([[[0, 0]]] * 100)

    def test_many_rows_of_one_shape(self):
        self.check([[bar(k) for k in range(100)]], [0, 0])
        self.check([[bar(k) for k in range(98)], [post(5, 97, 99), post(5, 100, 101)]], [1, 0, 1])
        self.check([[post(5, -9, -1)], [bar(k) for k in range(99)]], [0, 0, 0])

    def test_more_than_twelve_rows_of_twelve_shapes(self):
        self.check([[bar(10 * k + row) for row in range(8)] for k in range(12)], [0] + [0] * 12)
        self.check_refused([[bar(10 * k + row) for row in range(7)] for k in range(13)])

    def test_equal_threads_do_not_make_one_shape(self):
        self.assertEqual(over([[4, 0, 0], [4, 0, 0]]), [1, 0, 1])
        self.assertEqual(over([[4, 0, 0], [-1, 0, 0]]), [0, 0])
        self.assertEqual(over([[4, 0, 0]] * 13), [-1])


class HowManyHoles(OverCase):
    def row(self, how_many, height=0):
        return row_of((x, height) for x in range(how_many))

    def test_300_in_one_row_are_answered(self):
        self.check([[self.row(300)]], [0, 0])

    def test_301_in_one_row_are_refused(self):
        self.check_refused([[self.row(301)]])
        self.check_refused([[self.row(307)]])

    def test_300_over_several_are_answered(self):
        self.check([[self.row(150)], [self.row(150, 1)]], [0, 0, 0])
        self.check([[self.row(150)], [self.row(149), self.row(1, 1)]], [1, 0, 1])
        self.check([[self.row(299)], [[298, 0]]], [1, 0, 1])
        self.check([[[298, 0]], [self.row(299)]], [1, 0, 1])
        self.check([[self.row(25, k)] for k in range(12)], [0] + [0] * 12)
        self.check([[self.row(3, k) for k in range(100)]], [0, 0])

    def test_301_over_several_are_refused(self):
        self.check_refused([[self.row(150)], [self.row(151, 1)]])
        self.check_refused([[self.row(150)], [self.row(150), self.row(1, 1)]])
        self.check_refused([[self.row(300)], [[298, 0]]])
        self.check_refused([[[298, 0]], [self.row(300)]])
        self.check_refused([[self.row(25, k)] for k in range(11)] + [[self.row(26, 11)]])
        self.check_refused([[self.row(3, k) for k in range(99)] + [self.row(4, 99)]])

    def test_holes_that_are_one_count_each(self):
        self.check([[[3, 3] * 300]], [0, 0])
        self.check_refused([[[3, 3] * 301]])

    def test_a_row_of_more_than_60_is_answered_though_touch_refuses_it(self):
        row = self.row(61)
        self.assertEqual(touch(row, [60, 0]), [-1])
        self.check([[row], [[60, 0]]], [1, 0, 1])
        self.check([[row], [[61, 0]]], [0, 0, 0])
        self.check([[self.row(200)], [[70, 5, 199, 0]]], [1, 0, 1])

    def test_only_the_last_stitches_of_300_holes_touch(self):
        hook = row_of((x, 5) for x in range(200, 348)) + [347, 9, 149, 0]
        self.check([[self.row(150)], [hook]], [1, 0, 1])
        self.check([[self.row(150)], [hook[:-2] + [150, 0]]], [0, 0, 0])

    def test_a_row_of_no_holes_is_refused(self):
        for count in (1, 2, 3, 5):
            for place in range(count):
                shapes = [[bar(k)] for k in range(count)]
                shapes[place] = [[]]
                self.check_refused(shapes)
                self.check_refused([[shape[0] for shape in shapes]])

    def test_a_head_alone_is_refused(self):
        self.assertEqual(over([[0]]), [-1])
        self.assertEqual(over([[255]]), [-1])
        self.assertEqual(over([[7], [-1, 0, 0]]), [-1])
        self.assertEqual(over([[7, 0, 0], [-1], [-1, 0, 0]]), [-1])
        self.assertEqual(over([[7, 0, 0], [-1, 0, 0], [-1]]), [-1])
        self.assertEqual(over([[7, 0, 0], [8], [9, 0, 0]]), [-1])
        self.assertEqual(over([[7, 0, 0], [8, 0, 0], [9]]), [-1])


class Bounds(OverCase):
    def drawings_with(self, number):
        """Two shapes of five rows in all, the number as x or as y of any of their holes."""
        for place, k in itertools.product(range(5), range(6)):
            rows = [[1, 2 + 20 * row, 3, 4 + 20 * row, 5, 6 + 20 * row] for row in range(5)]
            rows[place][k] = number
            yield [rows[:2], rows[2:]]
        yield [[[number, 0]]]
        yield [[[0, number]]]

    def test_the_farthest_are_answered(self):
        for number in (FARTHEST, -FARTHEST):
            for shapes in self.drawings_with(number):
                self.check(shapes, answer_wanted(shapes))

    def test_beyond_is_refused(self):
        for number in (FARTHEST + 1, -FARTHEST - 1, 32767, -32768):
            for shapes in self.drawings_with(number):
                self.check_refused(shapes)

    def test_refused_though_shapes_in_bounds_touch(self):
        self.check_refused([[bar(0)], [post(5, 0, 9)], [[0, FARTHEST + 1]]])
        self.check_refused([[bar(0)], [post(5, 0, 9), [0, -FARTHEST - 1]]])
        self.check_refused([[bar(0) + [FARTHEST + 1, 0]], [post(5, 0, 9)]])

    def test_far_corners(self):
        slanting = [-FARTHEST, -FARTHEST, FARTHEST, FARTHEST]
        other = [-FARTHEST, FARTHEST, FARTHEST, -FARTHEST]
        self.check([[slanting], [other], [[0, 0]], [[0, 1]]], [3, 0, 1, 3, 0])


class Heads(OverCase):
    def test_a_thread_is_no_hole(self):
        self.assertEqual(over([[7, 0, 0], [0, 7, 0]]), [0, 0, 0])
        self.assertEqual(over([[3, 3, 9], [9, 3, 3]]), [0, 0, 0])
        self.assertEqual(over([[5, 0, 0, 10, 0], [0, 5, 9, 5, 1]]), [0, 0, 0])
        self.assertEqual(over([[5, 5, 5], [5, 4, 5], [5, 5, 5]]), [1, 0, 0, 1])

    def test_a_head_of_minus_one_is_no_hole(self):
        self.assertEqual(over([[7, 0, 0], [-1, 4, 4], [7, -1, 4]]), [0, 0, 0])
        self.assertEqual(over([[7, -1, -1], [7, 0, 0], [-1, 0, -1], [-1, -1, 0]]), [0, 0, 0])

    def test_holes_of_minus_one_are_no_heads(self):
        self.assertEqual(over([[7, -1, -1, -1, 5], [8, -1, 2]]), [1, 0, 1])

    def test_a_head_is_not_counted_among_the_holes(self):
        self.check([[bar(k)[:2] for k in range(100)]], [0, 0])
        self.assertEqual(over([[255] + [0, 0] * 300]), [0, 0])
        self.assertEqual(over([[255] + [0, 0] * 299, [-1, 0, 0]]), [0, 0])

    def test_first_and_last_thread(self):
        self.assertEqual(over([[0, 0, 0, 10, 0], [255, 5, 0, 5, 9]]), [1, 0, 1])
        self.assertEqual(over([[255, 0, 0, 10, 0], [0, 5, 0, 5, 9]]), [1, 0, 1])
        self.assertEqual(over([[0, 0, 0], [0, 0, 0], [0, 9, 9]]), [1, 0, 1, 0])

    def test_threads_change_nothing(self):
        for shapes in drawings():
            wanted = over(rows_of(shapes))
            for threads in ([0], [255], [9], [255, 0], list(range(12)), list(range(255, 243, -1))):
                self.assertEqual(over(rows_of(shapes, threads)), wanted, (threads, shapes))


class TheSameStill(OverCase):
    """F4 and F5."""

    def check_change(self, change):
        """That the answer stays when each row is changed."""
        for shapes in drawings():
            other = [[change(row) for row in shape] for shape in shapes]
            self.assertEqual(over(rows_of(other)), over(rows_of(shapes)), shapes)

    def test_from_the_other_end(self):
        self.check_change(from_other_end)

    def test_some_rows_from_the_other_end(self):
        self.check_change(lambda row: from_other_end(row) if sum(row) % 2 else row)

    def test_moved(self):
        rows = [row for shapes in drawings() for shape in shapes for row in shape]
        xs = [x for row in rows for x in row[0::2]]
        ys = [y for row in rows for y in row[1::2]]
        right, left = FARTHEST - max(xs), -FARTHEST - min(xs)
        top, bottom = FARTHEST - max(ys), -FARTHEST - min(ys)
        for aside, up in [(1, 0), (0, -1), (-7, 13), (right, bottom), (left, top)]:
            self.check_change(lambda row: changed(row, lambda x, y: (x + aside, y + up)))

    def test_turned_by_quarters(self):
        for turn in TURNS:
            self.check_change(lambda row: changed(row, turn))

    def test_turned_by_less_than_a_quarter(self):
        for shapes in drawings():
            larger = [[changed(row, lambda x, y: (5 * x, 5 * y)) for row in shape] for shape in shapes]
            turned = [[changed(row, lambda x, y: (3 * x - 4 * y, 4 * x + 3 * y)) for row in shape] for shape in shapes]
            self.assertEqual(over(rows_of(turned)), over(rows_of(larger)), shapes)

    def test_a_shapes_rows_in_another_order(self):
        for shapes in drawings():
            wanted = over(rows_of(shapes))
            self.assertEqual(over(rows_of([shape[::-1] for shape in shapes])), wanted, shapes)
            self.assertEqual(over(rows_of([shape[1:] + shape[:1] for shape in shapes])), wanted, shapes)

    def test_the_drawn_order_the_other_way_has_the_same_pairs(self):
        for shapes in drawings():
            last = len(shapes) - 1
            pairs, *numbers = over(rows_of(shapes))
            other_pairs, *other_numbers = over(rows_of(shapes[::-1]))
            self.assertEqual(other_pairs, pairs)
            for i, j in itertools.combinations(range(len(shapes)), 2):
                self.assertEqual(numbers[j] >> i & 1, other_numbers[last - i] >> (last - j) & 1, shapes)

    def test_no_shape_has_a_bit_for_itself_or_a_later_one(self):
        for shapes in drawings():
            pairs, *numbers = over(rows_of(shapes))
            self.assertEqual(len(numbers), len(shapes))
            self.assertEqual(sum(number.bit_count() for number in numbers), pairs)
            for j, number in enumerate(numbers):
                self.assertTrue(0 <= number < 2 ** j, shapes)


class TheCall(unittest.TestCase):
    samples = [
        ([[5, 0, 0, 10, 0]], [0, 0]),
        ([[5, 0, 0, 10, 0], [6, 5, 0, 5, 9]], [1, 0, 1]),
        ([[5, 0, 0, 10, 0], [-1, 0, 5], [6, 5, 1, 5, 9], [6, 0, 5]], [1, 0, 0, 1]),
        ([], [-1]),
        ([[5]], [-1]),
        ([[5, 0, 0], [-1]], [-1]),
        ([[5, 0, 0], [-1, 0, FARTHEST + 1]], [-1]),
        ([[5] + [0, 0] * 301], [-1]),
        ([[5, 0, 0]] * 13, [-1]),
    ]

    def test_it_takes_just_its_one_argument(self):
        parameters = list(inspect.signature(desk.over).parameters.values())
        self.assertEqual([parameter.name for parameter in parameters], ["rows"])
        self.assertIs(parameters[0].default, inspect.Parameter.empty)
        self.assertIs(parameters[0].kind, inspect.Parameter.POSITIONAL_OR_KEYWORD)
        self.assertEqual(over(rows=[[0, 0, 0]]), [0, 0])

    def test_it_answers_a_new_list_of_whole_numbers(self):
        for rows, wanted in self.samples:
            answer = over(rows)
            self.assertIs(type(answer), list)
            self.assertEqual([type(told) for told in answer], [int] * len(wanted))
            self.assertEqual(answer, wanted)
            self.assertIsNot(answer, over(rows))
            self.assertFalse(any(answer is given for given in [rows] + rows))

    def test_what_is_handed_in_stays_as_it_was(self):
        for rows, wanted in self.samples:
            kept = [list(row) for row in rows]
            lists = list(rows)
            over(rows)
            self.assertEqual(rows, kept)
            self.assertTrue(all(row is given for row, given in zip(rows, lists)))

    def test_what_is_handed_in_is_not_changed_for_a_while_either(self):
        for rows, wanted in self.samples:
            self.assertEqual(over(Untouchable([Untouchable(row) for row in rows])), wanted)

    def test_nothing_is_kept_from_one_call_to_the_next(self):
        for (rows, wanted), (others, other_wanted) in itertools.product(self.samples, repeat=2):
            over(rows).append(99)
            self.assertEqual(over(others), other_wanted)
            self.assertEqual(over(rows), wanted)

    def test_it_prints_reads_and_imports_nothing(self):
        def call_each():
            self.assertEqual([over(rows) for rows, wanted in self.samples], [wanted for rows, wanted in self.samples])

        self.assertEqual(told_aside(call_each), ("", []))


if __name__ == "__main__":
    unittest.main()
