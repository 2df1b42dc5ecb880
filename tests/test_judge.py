"""Tests of threadrow.desk.judge."""

import inspect
import itertools
import unittest

from helpers import LARGEST, RefusedTasks, Untouchable, chain, changes_along, choices_of_numbers, drawings, drawn_tasks
from helpers import full, orders_of, rows_of, told_aside
from threadrow import desk
from threadrow.desk import judge, order, over

FREE = [0] * 12


class JudgeCase(unittest.TestCase):
    def check(self, threads, numbers, tried, number):
        self.assertEqual(judge(threads, numbers, tried), [number], (threads, numbers, tried))

    def check_none(self, numbers, rows):
        """That none of the rows is an order, whatever the threads."""
        for tried in rows:
            self.check([1] * len(numbers), numbers, tried, -3)
            self.check(list(range(len(numbers))), numbers, tried, -3)


class Examples(JudgeCase):
    def test_two_pairs(self):
        self.check([1, 2, 1, 2], [0, 1, 0, 4], [0, 2, 1, 3], 1)

    def test_one_more_that_must_come_before(self):
        self.check([1, 2, 1, 2], [0, 1, 2, 4], [0, 1, 3, 2], -3)
        self.check([1, 2, 1, 2], [0, 1, 2, 4], [0, 1, 2, 3], 3)

    def test_the_last_is_free(self):
        self.check([1, 2, 1, 2], [0, 1, 2, 0], [0, 1, 3, 2], 2)

    def test_what_the_readme_shows(self):
        self.check([7, 9, 7], [0, 0, 2], [1, 0, 2], 1)
        self.check([7, 9, 7], [0, 0, 2], [0, 1, 2], 2)
        self.check([7, 9, 7], [0, 0, 2], [0, 2, 1], -3)
        self.check([7, 9, 7], [0, 0, 4], [0, 1, 2], -1)


class OneShape(JudgeCase):
    def test_its_order(self):
        for thread in (0, 5, LARGEST):
            self.check([thread], [0], [0], 0)

    def test_none(self):
        for tried in ([], [1], [0, 0], [0, 1], [1, 0], [2], [LARGEST], [0] * 30):
            self.check([5], [0], tried, -3)


class EveryRow(JudgeCase):
    def test_up_to_four_shapes(self):
        for count in range(1, 5):
            lengths = range(count + 2)
            rows = [list(row) for length in lengths for row in itertools.product(range(count + 1), repeat=length)]
            choices = choices_of_numbers(count)
            threads_of = itertools.cycle(itertools.product([1, 2, 3], repeat=count))
            for numbers, threads in zip(choices * 3, threads_of):
                orders = orders_of(numbers)
                for tried in rows:
                    wanted = changes_along(threads, tried) if tried in orders else -3
                    self.check(list(threads), numbers, tried, wanted)


class NoOrder(JudgeCase):
    def test_a_number_twice(self):
        self.check_none([0, 0, 0], [[0, 0, 1], [0, 1, 1], [1, 2, 1], [2, 2, 2]])
        self.check_none(FREE, [[0] + list(range(11)), list(range(11)) + [10], [5] * 12])

    def test_a_number_missing(self):
        self.check_none([0, 0, 0], [[0, 1], [1, 2], [0, 2], [2]])
        self.check_none(FREE, [list(range(11)), list(range(1, 12)), [0, 1, 2, 3, 4, 5, 7, 8, 9, 10, 11]])

    def test_one_too_many(self):
        self.check_none([0, 0, 0], [[0, 1, 2, 0], [0, 1, 2, 2], [0, 0, 1, 2], [0, 1, 2, 3], [0, 1, 1, 2]])
        self.check_none(FREE, [list(range(13)), list(range(12)) + [0], list(range(12)) * 2])

    def test_a_number_too_great(self):
        for number in (3, 4, 31, 32, 33, 64, 2 ** 31, LARGEST):
            self.check_none([0, 0, 0], [[0, 1, number], [0, number, 2], [number, 1, 2], [0, 1, 2, number]])
        for number in (12, 13, 2 ** 31, LARGEST):
            self.check_none(FREE, [list(range(11)) + [number], [number] + list(range(11))])
            self.check_none(FREE, [list(range(1, 12)) + [number], [number] + list(range(1, 12))])

    def test_none_at_all(self):
        for count in range(1, 13):
            self.check_none([0] * count, [[]])
            self.check_none(full(count), [[]])

    def test_thirty_numbers(self):
        for count in (1, 2, 11, 12):
            rows = [list(range(30)), [0] * 30, [LARGEST] * 30, (list(range(count)) * 30)[:30]]
            self.check_none([0] * count, rows)

    def test_one_ahead_of_what_must_come_before_it(self):
        for place in range(11):
            tried = list(range(12))
            tried[place], tried[place + 1] = place + 1, place
            self.check_none(chain(12), [tried])
            self.check_none(full(12), [tried])
            self.check([1] * 12, FREE, tried, 0)

    def test_far_ahead_of_it(self):
        for i, j in itertools.combinations(range(12), 2):
            numbers = [0] * 12
            numbers[j] = 2 ** i
            moved_up = [k for k in range(12) if k != j]
            moved_up.insert(i, j)
            self.check_none(numbers, [moved_up, list(range(11, -1, -1))])
            self.check([1] * 12, numbers, list(range(12)), 0)
            moved_up.remove(j)
            moved_up.insert(i + 1, j)
            self.check([1] * 12, numbers, moved_up, 0)

    def test_behind_some_but_not_all_that_must_come_before_it(self):
        self.check_none([0, 0, 0, 7], [[0, 1, 3, 2], [1, 2, 3, 0], [2, 0, 3, 1], [0, 3, 1, 2], [3, 0, 1, 2]])
        self.check([1, 2, 1, 2], [0, 0, 0, 7], [2, 0, 1, 3], 1)

    def test_the_order_read_from_its_end(self):
        self.check_none(chain(4), [[3, 2, 1, 0]])
        self.check_none([0, 1], [[1, 0]])
        self.check_none(full(12), [list(range(11, -1, -1))])

    def test_a_row_tells_shapes_by_their_places_not_places_by_their_shapes(self):
        self.check([1, 2, 3, 3], [0, 0, 0, 2], [1, 2, 3, 0], 2)
        self.check_none([0, 0, 0, 2], [[3, 0, 1, 2]])


class Changes(JudgeCase):
    def test_twelve_shapes_without_a_change(self):
        for tried in (list(range(12)), list(range(11, -1, -1))):
            self.check([4] * 12, FREE, tried, 0)
        self.check([4] * 12, full(12), list(range(12)), 0)

    def test_twelve_shapes_with_eleven(self):
        for tried in (list(range(12)), list(range(11, -1, -1))):
            self.check([1, 2] * 6, FREE, tried, 11)
            self.check(list(range(12)), FREE, tried, 11)
        self.check([1] * 6 + [2] * 6, FREE, [0, 6, 1, 7, 2, 8, 3, 9, 4, 10, 5, 11], 11)
        self.check([1, 2] * 6, full(12), list(range(12)), 11)

    def test_twelve_shapes_with_one(self):
        self.check([1, 2] * 6, FREE, [0, 2, 4, 6, 8, 10, 1, 3, 5, 7, 9, 11], 1)
        self.check([1, 2] * 6, FREE, [11, 3, 5, 7, 9, 1, 10, 2, 4, 6, 8, 0], 1)
        self.check([1] + [2] * 11, FREE, list(range(12)), 1)
        self.check([2] * 11 + [1], FREE, list(range(12)), 1)

    def test_the_least_and_the_greatest_thread(self):
        self.check([0, LARGEST] * 6, FREE, list(range(12)), 11)
        self.check([0] * 6 + [LARGEST] * 6, FREE, list(range(12)), 1)
        self.check([LARGEST, LARGEST - 1], [0, 0], [1, 0], 1)
        self.check([LARGEST, LARGEST], [0, 0], [1, 0], 0)
        self.check([0, 0, LARGEST], [0, 0, 0], [0, 2, 1], 2)

    def test_equal_threads_that_are_no_neighbours(self):
        self.check([1, 2, 1], [0, 0, 0], [0, 1, 2], 2)
        self.check([1, 2, 1], [0, 0, 0], [0, 2, 1], 1)
        self.check([1, 2, 3, 1], [0, 0, 0, 0], [0, 1, 2, 3], 3)
        self.check([1, 2, 3, 1], [0, 0, 0, 0], [1, 0, 3, 2], 2)

    def test_the_last_and_the_first_are_no_neighbours(self):
        self.check([1, 1, 2], [0, 0, 0], [0, 1, 2], 1)
        self.check([1, 2], [0, 0], [0, 1], 1)

    def test_it_need_not_be_the_told_order(self):
        for threads, numbers in drawn_tasks(60, 4, 6):
            for tried in orders_of(numbers):
                self.check(threads, numbers, tried, changes_along(threads, tried))


class Refusals(RefusedTasks, JudgeCase):
    def check_refused(self, threads, numbers):
        """Refused, whether the row would be an order of as many shapes or isn't one of any."""
        rows = [list(range(len(threads))), list(range(len(numbers))), [], [0], [0, 0], [LARGEST], [0] * 30]
        for tried in rows:
            self.check(threads, numbers, tried, -1)


class Promises(JudgeCase):
    def test_f5_the_order_in_which_shapes_were_drawn_is_an_order_of_them(self):
        for shapes in drawings() + [drawing[::-1] for drawing in drawings()]:
            rows = rows_of(shapes)
            threads = [row[0] for row in rows if row[0] >= 0]
            drawn = list(range(len(shapes)))
            self.check(threads, over(rows)[1:], drawn, changes_along(threads, drawn))

    def test_f5_whatever_comes_before(self):
        for threads, numbers in drawn_tasks(300, 1, 12):
            self.assertGreaterEqual(judge(threads, numbers, list(range(len(threads))))[0], 0)

    def test_f6_just_orders_are_taken(self):
        for threads, numbers in drawn_tasks(100, 1, 6):
            orders = orders_of(numbers)
            for row in itertools.permutations(range(len(numbers))):
                answer = judge(threads, numbers, list(row))
                self.assertEqual(answer != [-3], list(row) in orders, (numbers, row))
                self.assertEqual(len(answer), 1)

    def test_f6_of_the_told_order_it_tells_its_changes(self):
        for threads, numbers in drawn_tasks(400, 1, 12):
            changes, *told = order(threads, numbers)
            self.check(threads, numbers, told, changes)

    def test_f1_no_order_that_is_judged_has_fewer_changes(self):
        for threads, numbers in drawn_tasks(100, 1, 6):
            fewest = order(threads, numbers)[0]
            judged = [judge(threads, numbers, row)[0] for row in orders_of(numbers)]
            self.assertEqual(min(judged), fewest, (threads, numbers))


class TheCall(unittest.TestCase):
    samples = [
        ([1], [0], [0], 0),
        ([1, 2, 1, 2], [0, 1, 0, 4], [0, 2, 1, 3], 1),
        ([1, 2, 1, 2], [0, 1, 2, 4], [0, 1, 3, 2], -3),
        ([1, 2, 1, 2], [0, 1, 2, 4], [0, 1, 2, 3], 3),
        ([1, 2, 1], [0, 0, 0], [2, 1, 0], 2),
        ([1, 2] * 6, [0] * 12, [11, 9, 7, 5, 3, 1, 0, 2, 4, 6, 8, 10], 1),
        ([1, 2], [0, 0], [], -3),
        ([1, 2], [0, 0], [1, 1], -3),
        ([], [], [], -1),
        ([1], [1], [0], -1),
        ([1, 2], [0], [1, 0], -1),
        ([1] * 13, [0] * 13, [3, 3], -1),
    ]

    def test_it_takes_just_its_three_arguments(self):
        parameters = list(inspect.signature(desk.judge).parameters.values())
        self.assertEqual([parameter.name for parameter in parameters], ["threads", "numbers", "tried"])
        for parameter in parameters:
            self.assertIs(parameter.default, inspect.Parameter.empty)
            self.assertIs(parameter.kind, inspect.Parameter.POSITIONAL_OR_KEYWORD)
        self.assertEqual(judge(threads=[1, 2], numbers=[0, 1], tried=[0, 1]), [1])

    def test_it_answers_a_new_list_of_one_whole_number(self):
        for threads, numbers, tried, number in self.samples:
            answer = judge(threads, numbers, tried)
            self.assertIs(type(answer), list)
            self.assertEqual([type(told) for told in answer], [int])
            self.assertEqual(answer, [number])
            self.assertIsNot(answer, judge(threads, numbers, tried))
            self.assertFalse(any(answer is given for given in (threads, numbers, tried)))

    def test_what_is_handed_in_stays_as_it_was(self):
        for threads, numbers, tried, number in self.samples:
            kept = [list(threads), list(numbers), list(tried)]
            judge(threads, numbers, tried)
            self.assertEqual([threads, numbers, tried], kept)

    def test_what_is_handed_in_is_not_changed_for_a_while_either(self):
        for threads, numbers, tried, number in self.samples:
            given = [Untouchable(one) for one in (threads, numbers, tried)]
            self.assertEqual(judge(*given), [number])

    def test_one_list_handed_in_for_all(self):
        one = [0, 1, 2, 3]
        self.assertEqual(judge(one, one, one), [3])
        self.assertEqual(one, [0, 1, 2, 3])

    def test_nothing_is_kept_from_one_call_to_the_next(self):
        for first, second in itertools.product(self.samples, repeat=2):
            judge(*first[:3]).append(99)
            self.assertEqual(judge(*second[:3]), [second[3]])
            self.assertEqual(judge(*first[:3]), [first[3]])

    def test_it_prints_reads_and_imports_nothing(self):
        def call_each():
            answers = [judge(*sample[:3]) for sample in self.samples]
            self.assertEqual(answers, [[sample[3]] for sample in self.samples])

        self.assertEqual(told_aside(call_each), ("", []))


if __name__ == "__main__":
    unittest.main()
