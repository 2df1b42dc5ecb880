"""Tests of threadrow.desk.order."""

import inspect
import itertools
import unittest

from helpers import LARGEST, RefusedTasks, Untouchable, chain, changes_along, choices_of_numbers, drawn_numbers
from helpers import drawn_tasks, full, orders_of, told_aside
from threadrow import desk
from threadrow.desk import order, over

FREE = [0] * 12


def answer_wanted(threads, numbers):
    """Told another way than the program's: by going through all orders one by one, in order."""
    best = min(orders_of(numbers), key=lambda row: changes_along(threads, row))
    return [changes_along(threads, best)] + best


class OrderCase(unittest.TestCase):
    def check(self, threads, numbers, answer):
        self.assertEqual(order(threads, numbers), answer, (threads, numbers))


class Examples(OrderCase):
    def test_two_pairs(self):
        self.check([1, 2, 1, 2], [0, 1, 0, 4], [1, 0, 2, 1, 3])

    def test_the_last_is_free(self):
        self.check([1, 2, 1, 2], [0, 1, 2, 0], [2, 0, 1, 3, 2])

    def test_one_behind_the_other(self):
        self.check([1, 2, 1, 2], [0, 1, 2, 4], [3, 0, 1, 2, 3])


class FewThreadsOrBits(OrderCase):
    def test_one_shape(self):
        for thread in (0, 1, 7, LARGEST):
            self.check([thread], [0], [0, 0])

    def test_two_shapes(self):
        for number in (0, 1):
            self.check([3, 3], [0, number], [0, 0, 1])
            self.check([3, 4], [0, number], [1, 0, 1])
            self.check([4, 3], [0, number], [1, 0, 1])

    def test_all_of_one_thread(self):
        for count in range(1, 13):
            for numbers in (FREE[:count], chain(count), full(count)):
                self.check([5] * count, numbers, [0] + list(range(count)))

    def test_all_of_different_threads(self):
        for count in range(1, 13):
            for threads in (list(range(count)), list(range(count, 0, -1))):
                for numbers in (FREE[:count], chain(count), full(count)):
                    self.check(threads, numbers, [count - 1] + list(range(count)))

    def test_what_the_readme_shows(self):
        self.check([7, 9, 7], [0, 0, 0], [1, 0, 2, 1])
        self.check([7, 9, 7], [0, 0, 2], [1, 1, 0, 2])
        self.check([7, 9, 7], [0, 1, 2], [2, 0, 1, 2])
        self.check([7, 9], [0, 2], [-1])
        self.check([7, 9, 7], over([[7, 0, 0, 10, 0], [9, 5, 0, 5, 9], [7, 0, 8, 10, 8]])[1:], [2, 0, 1, 2])


class WhichOfSeveral(OrderCase):
    def test_the_choice_falls_at_the_first_number(self):
        self.check([1, 2], [0, 0], [1, 0, 1])
        self.check([1, 2, 1], [0, 0, 0], [1, 0, 2, 1])
        self.check([2, 1, 1, 2], [0, 0, 0, 0], [1, 0, 3, 1, 2])
        self.check([1, 2, 2, 1, 1], [0, 1, 0, 0, 4], [2, 0, 1, 2, 3, 4])
        self.check([1, 2, 2, 1], [0, 1, 0, 4], [2, 0, 1, 2, 3])

    def test_the_choice_falls_in_the_middle(self):
        self.check([1, 2, 3, 2, 3], [0, 1, 1, 1, 1], [2, 0, 1, 3, 2, 4])
        self.check([1, 3, 2, 3, 2, 9], [0, 1, 1, 1, 1, 30], [3, 0, 1, 3, 2, 4, 5])

    def test_the_choice_falls_near_the_end(self):
        self.check([1, 2, 3, 4, 4], [0, 1, 3, 7, 7], [3, 0, 1, 2, 3, 4])
        self.check([1, 2, 3, 4, 5, 4], [0, 1, 3, 7, 7, 7], [4, 0, 1, 2, 3, 5, 4])
        self.check([5] + [1] * 9 + [2, 3], [0] + [2 ** j - 1 for j in range(1, 10)] + [512, 512],
                   [3] + list(range(12)))

    def test_a_lesser_first_number_that_costs_a_change_more(self):
        self.check([1, 2, 1], [0, 0, 2], [1, 1, 0, 2])
        self.check([1, 2, 2, 1], [0, 0, 0, 2], [1, 1, 2, 0, 3])
        self.check([1, 1, 2, 1], [0, 0, 0, 4], [1, 2, 0, 1, 3])
        self.check([1, 2, 3, 1], [0, 0, 0, 6], [2, 1, 2, 0, 3])

    def test_a_lesser_number_farther_on_that_costs_a_change_more(self):
        self.check([9, 1, 2, 1], [0, 1, 1, 4], [2, 0, 2, 1, 3])
        self.check([9, 8, 1, 2, 1], [0, 1, 3, 3, 8], [3, 0, 1, 3, 2, 4])

    def test_another_shape_of_the_same_thread_does_not_always_come_first(self):
        self.check([1, 1, 2, 2, 1], [0, 0, 0, 4, 8], [1, 2, 3, 0, 1, 4])
        self.check([1, 2, 1, 2], [0, 0, 1, 0], [1, 0, 2, 1, 3])
        self.check([1, 2, 3, 2, 1], [0, 0, 1, 4, 2], [3, 0, 2, 1, 3, 4])

    def test_what_must_come_before_is_handed_on(self):
        self.check([1, 2, 3, 1], [0, 1, 2, 4], [3, 0, 1, 2, 3])
        self.check([3, 2, 1, 2, 3], [0, 1, 2, 4, 0], [3, 0, 4, 1, 2, 3])


class AgainstAnotherWay(OrderCase):
    def test_every_choice_up_to_four_shapes(self):
        for count in range(1, 5):
            for numbers in choices_of_numbers(count):
                for threads in itertools.product([1, 2, 3], repeat=count):
                    self.check(list(threads), numbers, answer_wanted(threads, numbers))

    def test_made_ones_of_five_to_seven_shapes(self):
        told = []
        for threads, numbers in drawn_tasks(450, 5, 7):
            answer = answer_wanted(threads, numbers)
            self.check(threads, numbers, answer)
            told.append((answer[0], answer[1]))
        self.assertGreater(len({changes for changes, first in told}), 4)
        self.assertGreater(len([first for changes, first in told if first != 0]), 20)


class TwelveShapes(OrderCase):
    def test_nothing_before_anything(self):
        evens, odds = list(range(0, 12, 2)), list(range(1, 12, 2))
        self.check([1, 2] * 6, FREE, [1] + evens + odds)
        self.check([2, 1] * 6, FREE, [1] + evens + odds)
        self.check([1, 2, 3, 4, 5, 6] * 2, FREE, [5, 0, 6, 1, 7, 2, 8, 3, 9, 4, 10, 5, 11])
        self.check([1, 2, 3, 4, 5, 6, 6, 5, 4, 3, 2, 1], FREE, [5, 0, 11, 1, 10, 2, 9, 3, 8, 4, 7, 5, 6])
        self.check([9, 3, 7, 1, 8, 2, 6, 0, 5, 4, 11, 10], FREE, [11] + list(range(12)))

    def test_each_behind_all_lower_ones(self):
        for threads, changes in [([1, 2] * 6, 11), ([1] * 6 + [2] * 6, 1), ([4] * 12, 0), ([1, 1, 2, 2, 3, 3] * 2, 5)]:
            self.check(threads, full(12), [changes] + list(range(12)))
            self.check(threads, chain(12), [changes] + list(range(12)))

    def test_six_that_all_come_behind_six(self):
        numbers = [0] * 6 + [63] * 6
        self.check([1, 2] * 6, numbers, [2, 0, 2, 4, 1, 3, 5, 7, 9, 11, 6, 8, 10])
        self.check([1, 2] * 3 + [2, 1] * 3, numbers, [2, 0, 2, 4, 1, 3, 5, 6, 8, 10, 7, 9, 11])
        self.check([1, 2] * 3 + [3, 1] * 3, numbers, [2, 1, 3, 5, 0, 2, 4, 7, 9, 11, 6, 8, 10])
        self.check([1, 2] * 3 + [3, 4] * 3, numbers, [3, 0, 2, 4, 1, 3, 5, 6, 8, 10, 7, 9, 11])

    def test_two_rows_of_six_each_one_behind_the_other(self):
        numbers = chain(6) + [0] + [2 ** j for j in range(6, 11)]
        self.check([1, 2] * 6, numbers, [5, 0, 6, 1, 7, 2, 8, 3, 9, 4, 10, 5, 11])
        self.check([1, 2] * 3 + [2, 1] * 3, numbers, [6, 0, 1, 6, 2, 7, 3, 8, 4, 9, 5, 10, 11])
        self.check([1] * 6 + [2] * 6, numbers, [1] + list(range(12)))
        self.check([1, 2, 3, 1, 2, 3] * 2, numbers, [5, 0, 6, 1, 7, 2, 8, 3, 9, 4, 10, 5, 11])

    def test_two_rows_of_six_drawn_by_turns(self):
        numbers = [0, 0] + [2 ** j for j in range(10)]
        self.check([1, 1, 2, 2] * 3, numbers, [5] + list(range(12)))
        self.check([1, 2] * 6, numbers, [1, 0, 2, 4, 6, 8, 10, 1, 3, 5, 7, 9, 11])

    def test_the_last_one_free(self):
        self.check([1, 2] * 6, full(11) + [0], [10, 0, 1, 2, 3, 4, 5, 6, 7, 8, 9, 11, 10])
        self.check([1, 2, 2, 3] * 3, full(11) + [0], [7, 0, 1, 2, 3, 4, 5, 6, 7, 11, 8, 9, 10])
        self.check([1, 2] * 5 + [1, 3], full(11) + [0], [11] + list(range(12)))


class Threads(OrderCase):
    def test_the_least_and_the_greatest(self):
        self.check([0, LARGEST, 0, LARGEST], [0, 0, 0, 0], [1, 0, 2, 1, 3])
        self.check([LARGEST, 0, LARGEST], [0, 0, 2], [1, 1, 0, 2])
        self.check([0, LARGEST] * 6, FREE, [1, 0, 2, 4, 6, 8, 10, 1, 3, 5, 7, 9, 11])
        self.check([0] * 12, FREE, [0] + list(range(12)))
        self.check([LARGEST] * 12, FREE, [0] + list(range(12)))

    def test_great_ones_that_differ_by_one(self):
        one, other = LARGEST, LARGEST - 1
        self.check([one, other, one, other], [0, 1, 0, 4], [1, 0, 2, 1, 3])
        self.check([other, one, other], [0, 0, 0], [1, 0, 2, 1])
        self.check([one - k for k in range(12)], FREE, [11] + list(range(12)))
        self.check([2147483647, 2147483648] * 2, [0, 0, 0, 0], [1, 0, 2, 1, 3])

    def test_only_which_are_equal_counts(self):
        for threads, numbers in drawn_tasks(60, 3, 9):
            wanted = order(threads, numbers)
            for other in ([LARGEST - thread for thread in threads], [65536 * thread for thread in threads]):
                self.check(other, numbers, wanted)


class Refusals(RefusedTasks, OrderCase):
    def check_refused(self, threads, numbers):
        self.check(threads, numbers, [-1])


class Answered(OrderCase):
    def test_twelve(self):
        self.check([1] * 12, FREE, [0] + list(range(12)))

    def test_the_greatest_number_that_each_may_have(self):
        for count in range(1, 13):
            for j in range(count):
                numbers = [0] * count
                numbers[j] = 2 ** j - 1
                self.check([1] * count, numbers, [0] + list(range(count)))
        self.check([2] * 12, full(12), [0] + list(range(12)))


class Promises(OrderCase):
    def test_f1_the_told_order_is_one(self):
        for threads, numbers in drawn_tasks(300, 1, 12):
            changes, *told = order(threads, numbers)
            self.assertEqual(sorted(told), list(range(len(threads))))
            for j, number in enumerate(numbers):
                ahead = told[:told.index(j)]
                self.assertTrue(all(i in ahead for i in range(j) if number >> i & 1), (threads, numbers))
            self.assertEqual(changes, changes_along(threads, told))

    def test_f1_none_has_fewer_changes_nor_as_few_and_comes_before_it(self):
        for threads, numbers in drawn_tasks(300, 1, 6):
            changes, *told = order(threads, numbers)
            others = [(changes_along(threads, row), row) for row in orders_of(numbers)]
            self.assertIn((changes, told), others)
            self.assertFalse([other for other in others if other < (changes, told)], (threads, numbers))

    def test_f2_as_many_changes_as_different_threads_less_one(self):
        for threads, numbers in drawn_tasks(300, 1, 12):
            changes, *told = order(threads, [0] * len(threads))
            self.assertEqual(changes, len(set(threads)) - 1, threads)
            firsts = [threads.index(thread) for thread in threads]
            self.assertEqual(told, sorted(range(len(threads)), key=lambda j: (firsts[j], j)), threads)

    def test_f3_one_more_bit_never_gives_fewer_changes(self):
        drawn = drawn_numbers()
        more = 0
        for threads, numbers in drawn_tasks(300, 2, 10):
            j = 1 + next(drawn) % (len(numbers) - 1)
            i = next(drawn) % j
            without, with_it = list(numbers), list(numbers)
            without[j] &= ~(1 << i)
            with_it[j] |= 1 << i
            fewer, changes = order(threads, without)[0], order(threads, with_it)[0]
            self.assertLessEqual(fewer, changes, (threads, without, with_it))
            more += fewer < changes
        self.assertGreater(more, 5)


class TheCall(unittest.TestCase):
    samples = [
        ([1], [0], [0, 0]),
        ([1, 2, 1, 2], [0, 1, 0, 4], [1, 0, 2, 1, 3]),
        ([1, 2, 1, 2], [0, 1, 2, 0], [2, 0, 1, 3, 2]),
        ([1, 2, 1], [0, 0, 2], [1, 1, 0, 2]),
        ([1, 2] * 6, [0] * 12, [1, 0, 2, 4, 6, 8, 10, 1, 3, 5, 7, 9, 11]),
        ([], [], [-1]),
        ([1], [1], [-1]),
        ([1, 2], [0], [-1]),
        ([1] * 13, [0] * 13, [-1]),
    ]

    def test_it_takes_just_its_two_arguments(self):
        parameters = list(inspect.signature(desk.order).parameters.values())
        self.assertEqual([parameter.name for parameter in parameters], ["threads", "numbers"])
        for parameter in parameters:
            self.assertIs(parameter.default, inspect.Parameter.empty)
            self.assertIs(parameter.kind, inspect.Parameter.POSITIONAL_OR_KEYWORD)
        self.assertEqual(order(threads=[1, 2], numbers=[0, 1]), [1, 0, 1])

    def test_it_answers_a_new_list_of_whole_numbers(self):
        for threads, numbers, wanted in self.samples:
            answer = order(threads, numbers)
            self.assertIs(type(answer), list)
            self.assertEqual([type(told) for told in answer], [int] * len(wanted))
            self.assertEqual(answer, wanted)
            self.assertIsNot(answer, order(threads, numbers))
            self.assertFalse(answer is threads or answer is numbers)

    def test_what_is_handed_in_stays_as_it_was(self):
        for threads, numbers, wanted in self.samples:
            kept, other_kept = list(threads), list(numbers)
            order(threads, numbers)
            self.assertEqual((threads, numbers), (kept, other_kept))

    def test_what_is_handed_in_is_not_changed_for_a_while_either(self):
        for threads, numbers, wanted in self.samples:
            self.assertEqual(order(Untouchable(threads), Untouchable(numbers)), wanted)

    def test_one_list_handed_in_twice(self):
        one = [0, 1, 0, 1]
        self.assertEqual(order(one, one), answer_wanted([0, 1, 0, 1], [0, 1, 0, 1]))
        self.assertEqual(one, [0, 1, 0, 1])

    def test_nothing_is_kept_from_one_call_to_the_next(self):
        for first, second in itertools.product(self.samples, repeat=2):
            order(first[0], first[1]).append(99)
            self.assertEqual(order(second[0], second[1]), second[2])
            self.assertEqual(order(first[0], first[1]), first[2])

    def test_it_prints_reads_and_imports_nothing(self):
        def call_each():
            answers = [order(threads, numbers) for threads, numbers, wanted in self.samples]
            self.assertEqual(answers, [sample[2] for sample in self.samples])

        self.assertEqual(told_aside(call_each), ("", []))


if __name__ == "__main__":
    unittest.main()
