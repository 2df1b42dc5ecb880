"""Tests of threadrow.desk.touch."""

import inspect
import itertools
import unittest

from helpers import FARTHEST, TURNS, Untouchable, changed, drawn_rows, from_other_end, holes_of, row_of
from helpers import rows_share_a_point, stitches_share_a_point, told_aside
from threadrow import desk
from threadrow.desk import touch


class TouchCase(unittest.TestCase):
    def check(self, one, other, number):
        """The answer, both ways round and with each row gone through from its other end."""
        backward, other_backward = from_other_end(one), from_other_end(other)
        for first, second in [(one, other), (backward, other), (one, other_backward), (backward, other_backward)]:
            with self.subTest(one=first, other=second):
                self.assertEqual(touch(first, second), [number])
                self.assertEqual(touch(second, first), [number])


class Examples(TouchCase):
    def test_an_end_on_the_others_middle(self):
        self.check([0, 0, 10, 0], [5, 0, 5, 9], 1)

    def test_in_one_line_and_apart(self):
        self.check([0, 0, 10, 0], [11, 0, 20, 0], 0)

    def test_one_hole_on_a_slanting_stitch(self):
        self.check([0, 0, 10, 10], [4, 4], 1)


class OrdinaryRows(TouchCase):
    def test_crossing_between_their_ends(self):
        self.check([0, 0, 10, 10], [0, 10, 10, 0], 1)
        self.check([-5, 0, 5, 0], [0, -5, 0, 5], 1)

    def test_crossing_at_no_whole_place(self):
        self.check([0, 0, 1, 1], [0, 1, 1, 0], 1)
        self.check([0, 0, 7, 3], [3, 0, 2, 5], 1)

    def test_lines_that_cross_beyond_a_stitch(self):
        self.check([0, 0, 10, 10], [6, 4, 20, 0], 0)
        self.check([0, 0, 4, 4], [0, 10, 10, 0], 0)
        self.check([0, 0, 10, 0], [5, 1, 5, 9], 0)
        self.check([0, 0, 10, 4], [4, 2, 4, 9], 0)

    def test_spans_that_overlap_while_stitches_are_apart(self):
        self.check([0, 0, 10, 10], [6, 0, 9, 5], 0)
        self.check([0, 0, 10, 9], [1, 1, 9, 9], 0)
        self.check([0, 0, 10, 9], [1, 1, 9, 8], 1)

    def test_meeting_at_ends(self):
        self.check([0, 0, 10, 0], [10, 0, 13, 8], 1)
        self.check([-3, -4, 2, 2], [2, 2, -9, 7], 1)
        self.check([0, 0, 10, 0], [11, 0, 13, 8], 0)

    def test_an_end_on_the_others_middle(self):
        self.check([0, 0, 6, 4], [3, 2, 9, -5], 1)
        self.check([0, 0, 6, 4], [3, 1, 9, -5], 0)
        self.check([0, 0, 0, 8], [0, 3, 7, 3], 1)

    def test_parallel(self):
        self.check([0, 0, 10, 0], [0, 1, 10, 1], 0)
        self.check([0, 0, 0, 10], [1, 0, 1, 10], 0)
        self.check([0, 0, 10, 10], [1, 0, 11, 10], 0)
        self.check([0, 0, 9, 6], [1, 1, 4, 3], 0)

    def test_in_one_line_with_a_common_part(self):
        self.check([0, 0, 10, 0], [5, 0, 15, 0], 1)
        self.check([0, 0, 0, 10], [0, 3, 0, 5], 1)
        self.check([0, 0, 9, 6], [3, 2, 12, 8], 1)
        self.check([0, 0, 9, -6], [0, 0, 9, -6], 1)

    def test_in_one_line_with_one_common_end(self):
        self.check([0, 0, 10, 0], [10, 0, 20, 0], 1)
        self.check([0, 0, 0, 10], [0, 10, 0, 20], 1)
        self.check([0, 0, 3, 2], [3, 2, 6, 4], 1)

    def test_in_one_line_and_apart(self):
        self.check([0, 0, 0, 10], [0, 11, 0, 20], 0)
        self.check([0, 0, 3, 2], [6, 4, 9, 6], 0)
        self.check([0, 0, -3, 3], [-4, 4, -9, 9], 0)

    def test_level_and_upright(self):
        self.check([0, 5, 10, 5], [3, 0, 3, 9], 1)
        self.check([0, 5, 10, 5], [10, 5, 10, 9], 1)
        self.check([0, 5, 10, 5], [11, 0, 11, 9], 0)
        self.check([0, 5, 10, 5], [3, 6, 3, 9], 0)

    def test_one_stitch_of_each_touches(self):
        self.check([0, 0, 4, 0, 4, 4, 0, 4], [9, 9, 9, 2, 3, 2, 20, 1], 1)
        self.check([0, 0, 0, 9, 1, 9, 1, 0, 50, 0], [40, 3, 41, 3, 41, 0, 40, 1], 1)
        self.check([0, 0, 4, 0, 4, 4, 0, 4], [9, 9, 9, 2, 5, 2, 20, 1], 0)

    def test_no_stitch_from_the_last_hole_back_to_the_first(self):
        self.check([0, 0, 10, 0, 10, 10], [4, 4, 5, 6], 0)
        self.check([0, 0, 10, 0, 10, 10, 0, 0], [5, 5, 4, 6], 1)

    def test_within_the_others_round(self):
        self.check([0, 0, 10, 0, 10, 10, 0, 10, 0, 0], [4, 4, 6, 6], 0)

    def test_a_row_touches_itself(self):
        row = [0, 0, 7, 3, 2, 9]
        self.assertEqual(touch(row, row), [1])


class SmallField(TouchCase):
    def test_all_pairs_of_stitches_on_nine_places(self):
        places = list(itertools.product(range(3), repeat=2))
        stitches = list(itertools.product(places, repeat=2))
        for one, other in itertools.product(stitches, repeat=2):
            wanted = [1 if stitches_share_a_point(*one, *other) else 0]
            self.assertEqual(touch(row_of(one), row_of(other)), wanted, (one, other))

    def test_rows_of_some_holes(self):
        rows = drawn_rows(60)
        told = []
        for one, other in itertools.product(rows, repeat=2):
            wanted = [1 if rows_share_a_point(one, other) else 0]
            self.assertEqual(touch(one, other), wanted, (one, other))
            told.append(wanted[0])
        self.assertIn(0, told)
        self.assertIn(1, told)


class OneHole(TouchCase):
    def test_upon_a_stitch(self):
        self.check([0, 0, 9, 6], [3, 2], 1)
        self.check([0, 0, 9, 6], [0, 0], 1)
        self.check([0, 0, 9, 6], [9, 6], 1)
        self.check([0, 0, 9, 0, 9, 7], [9, 4], 1)

    def test_beside_a_stitch(self):
        self.check([0, 0, 9, 6], [3, 3], 0)
        self.check([0, 0, 9, 6], [4, 2], 0)
        self.check([0, 0, 9, 6], [12, 8], 0)
        self.check([0, 0, 9, 6], [-3, -2], 0)
        self.check([0, 0, 9, 0], [10, 0], 0)
        self.check([0, 0, 0, 9], [0, -1], 0)

    def test_upon_anothers_one_hole(self):
        self.check([7, -2], [7, -2], 1)

    def test_beside_anothers_one_hole(self):
        self.check([7, -2], [7, -1], 0)
        self.check([7, -2], [8, -2], 0)
        self.check([7, -2], [-2, 7], 0)

    def test_neighbours_that_are_one_are_that_point(self):
        self.check([4, 4, 4, 4], [4, 4], 1)
        self.check([4, 4, 4, 4], [4, 5], 0)
        self.check([4, 4, 4, 4], [4, 4, 4, 4, 4, 4], 1)
        self.check([4, 4, 4, 4], [0, 0, 10, 10], 1)
        self.check([4, 4, 4, 4], [0, 0, 10, 9], 0)
        self.check([4, 4, 4, 4], [5, 5, 10, 10], 0)

    def test_neighbours_that_are_one_among_others(self):
        self.check([0, 0, 5, 5, 5, 5, 9, 0], [5, 5], 1)
        self.check([0, 0, 5, 5, 5, 5, 9, 0], [5, 6, 9, 6], 0)
        self.check([0, 0, 0, 0, 9, 0], [6, 0, 6, 0, 6, 8], 1)
        self.check([0, 0, 0, 0, 9, 0], [6, 1, 6, 1, 6, 8], 0)


class HowManyHoles(TouchCase):
    def setUp(self):
        self.sixty = row_of((x, x * x) for x in range(60))
        self.more = row_of((x, x * x) for x in range(61))

    def test_sixty_are_answered(self):
        self.check(self.sixty, [59, 59 * 59, 70, 0], 1)
        self.check(self.sixty, [0, 0], 1)
        self.check(self.sixty, [60, 0], 0)
        self.check(self.sixty, from_other_end(self.sixty), 1)

    def test_only_the_last_stitches_of_sixty_holes_touch(self):
        flat = row_of((x, 0) for x in range(60))
        hook = row_of((x, 5) for x in range(70, 128)) + [70, 9, 59, 0]
        self.assertEqual(len(holes_of(hook)), 60)
        self.check(flat, hook, 1)
        self.check(flat, hook[:-2] + [60, 0], 0)

    def test_sixty_one_are_refused(self):
        self.check(self.more, [0, 0], -1)
        self.check(self.more, [900, 900], -1)
        self.check(self.more, self.sixty, -1)
        self.check(self.more, self.more, -1)

    def test_a_hundred_are_refused(self):
        self.check([0, 0] * 100, [0, 0], -1)

    def test_holes_that_are_one_count_each(self):
        self.check([3, 3] * 60, [3, 3], 1)
        self.check([3, 3] * 61, [3, 3], -1)

    def test_no_hole_is_refused(self):
        self.check([], [0, 0, 10, 0], -1)
        self.check([], self.more, -1)
        self.check([], [0, FARTHEST + 1], -1)
        self.assertEqual(touch([], []), [-1])


class Bounds(TouchCase):
    def rows_with(self, number):
        """A row of three holes with the number as x or as y, in its first, middle or last hole; one hole, too."""
        for k in range(6):
            row = [1, 2, 3, 4, 5, 6]
            row[k] = number
            yield row
        yield [number, 0]
        yield [0, number]

    def test_the_farthest_are_answered(self):
        for number in (FARTHEST, -FARTHEST):
            for row in self.rows_with(number):
                self.check(row, [-7, -8, -9, -7], 0)
                self.check(row, row, 1)

    def test_the_first_beyond_are_refused(self):
        for number in (FARTHEST + 1, -FARTHEST - 1):
            for row in self.rows_with(number):
                self.check(row, [-7, -8, -9, -7], -1)
                self.check(row, row, -1)

    def test_far_beyond_is_refused(self):
        for number in (2147483647, -2147483648, 65536, -65536, 4 * FARTHEST):
            for row in self.rows_with(number):
                self.check(row, [1, 2, 3, 4], -1)

    def test_refused_though_stitches_in_bounds_touch(self):
        self.check([0, 0, 10, 0, 10, FARTHEST + 1], [5, 0, 5, 9], -1)
        self.check([0, 0, 10, 0], [5, 0, 5, 9, -FARTHEST - 1, 9], -1)

    def test_far_corners(self):
        self.check([-FARTHEST, -FARTHEST, FARTHEST, FARTHEST], [-FARTHEST, FARTHEST, FARTHEST, -FARTHEST], 1)
        self.check([-FARTHEST, -FARTHEST, FARTHEST, FARTHEST], [0, 0], 1)

    def test_beside_a_long_stitch_by_the_least_way(self):
        long_one = [-FARTHEST, -FARTHEST, FARTHEST, FARTHEST - 1]
        self.check(long_one, [1 - FARTHEST, 1 - FARTHEST], 0)
        self.check(long_one, [FARTHEST - 1, FARTHEST - 2], 0)
        self.check(long_one, [1 - FARTHEST, 1 - FARTHEST, FARTHEST - 1, FARTHEST - 1], 0)
        self.check(long_one, [1 - FARTHEST, 1 - FARTHEST, FARTHEST - 1, FARTHEST - 2], 1)


class TheSameStill(TouchCase):
    """F4."""

    def pairs(self):
        rows = drawn_rows(40) + [[3, 3, 3, 3], [0, 0], [], [0, 0] * 61]
        return itertools.product(rows, repeat=2)

    def check_change(self, change):
        for one, other in self.pairs():
            self.assertEqual(touch(changed(one, change), changed(other, change)), touch(one, other), (one, other))

    def test_both_ways(self):
        for one, other in self.pairs():
            self.assertEqual(touch(other, one), touch(one, other), (one, other))

    def test_from_the_other_end(self):
        for one, other in self.pairs():
            wanted = touch(one, other)
            self.assertEqual(touch(from_other_end(one), other), wanted, (one, other))
            self.assertEqual(touch(one, from_other_end(other)), wanted, (one, other))
            self.assertEqual(touch(from_other_end(one), from_other_end(other)), wanted, (one, other))

    def test_moved(self):
        for over, up in [(1, 0), (0, -1), (-7, 13), (FARTHEST - 6, 6 - FARTHEST), (6 - FARTHEST, FARTHEST - 6)]:
            self.check_change(lambda x, y: (x + over, y + up))

    def test_turned_by_quarters(self):
        for turn in TURNS:
            self.check_change(turn)

    def test_turned_by_less_than_a_quarter(self):
        for one, other in self.pairs():
            wanted = touch(changed(one, lambda x, y: (5 * x, 5 * y)), changed(other, lambda x, y: (5 * x, 5 * y)))
            turned = [changed(row, lambda x, y: (3 * x - 4 * y, 4 * x + 3 * y)) for row in (one, other)]
            self.assertEqual(touch(*turned), wanted, (one, other))

    def test_turned_at_the_bounds(self):
        one = [-FARTHEST, -FARTHEST, FARTHEST, FARTHEST - 1]
        for other in ([1 - FARTHEST, 1 - FARTHEST], [FARTHEST, FARTHEST - 1], [FARTHEST + 1, 0], [0, -FARTHEST - 1]):
            for turn in TURNS:
                self.assertEqual(touch(changed(one, turn), changed(other, turn)), touch(one, other), other)


class TheCall(unittest.TestCase):
    samples = [
        ([0, 0, 10, 0], [5, 0, 5, 9], 1),
        ([0, 0, 10, 0], [11, 0, 20, 0], 0),
        ([0, 0, 10, 10], [4, 4], 1),
        ([4, 4], [0, 0, 10, 9, 3, 3], 0),
        ([], [4, 4], -1),
        ([4, 4], [], -1),
        ([0, FARTHEST + 1], [4, 4], -1),
        ([0, 0] * 61, [0, 0], -1),
    ]

    def test_it_takes_just_its_two_arguments(self):
        parameters = list(inspect.signature(desk.touch).parameters.values())
        self.assertEqual([parameter.name for parameter in parameters], ["one", "other"])
        for parameter in parameters:
            self.assertIs(parameter.default, inspect.Parameter.empty)
            self.assertIs(parameter.kind, inspect.Parameter.POSITIONAL_OR_KEYWORD)
        self.assertEqual(touch(one=[0, 0], other=[0, 0]), [1])

    def test_it_answers_a_list_of_one_whole_number(self):
        for one, other, number in self.samples:
            answer = touch(one, other)
            self.assertIs(type(answer), list)
            self.assertEqual([type(told) for told in answer], [int])
            self.assertEqual(answer, [number])

    def test_what_is_handed_in_stays_as_it_was(self):
        for one, other, number in self.samples:
            kept, other_kept = list(one), list(other)
            touch(one, other)
            self.assertEqual((one, other), (kept, other_kept))

    def test_what_is_handed_in_is_not_changed_for_a_while_either(self):
        for one, other, number in self.samples:
            self.assertEqual(touch(Untouchable(one), Untouchable(other)), [number])

    def test_nothing_is_kept_from_one_call_to_the_next(self):
        for first, second in itertools.product(self.samples, repeat=2):
            answer = touch(first[0], first[1])
            answer.append(99)
            self.assertEqual(touch(second[0], second[1]), [second[2]])
            self.assertEqual(touch(first[0], first[1]), [first[2]])

    def test_it_prints_reads_and_imports_nothing(self):
        def call_each():
            self.assertEqual([touch(*sample[:2]) for sample in self.samples], [[sample[2]] for sample in self.samples])

        self.assertEqual(told_aside(call_each), ("", []))


if __name__ == "__main__":
    unittest.main()
