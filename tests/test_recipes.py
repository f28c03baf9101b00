import inspect
import unittest

from makeyard.errors import NoSort, YardError
from makeyard.recipes import worked

SORTS = ["sum", "most", "take"]
# Of all numbers of a hundred figures: the greatest, the least, and the least above nought.
GREATEST = int("9" * 100)
LEAST = -GREATEST
HUNDRED_FIGURES = int("1" + "0" * 99)

NO_SORTS = [
    "", " ", "Sum", "SUM", "sUm", "Most", "MOST", "Take", "TAKE",
    " sum", "sum ", "sum\n", "\tsum", " most", "most ", "most\n", " take", "take ", "take\n",
    "su", "sums", "mos", "mosts", "tak", "taken", "s", "summost", "sum most", "sum,take",
    "max", "min", "least", "product", "0", "None",
]


class Worked(unittest.TestCase):
    def check(self, sort, rows):
        for numbers, expected in rows:
            with self.subTest(sort=sort, numbers=numbers[:9], length=len(numbers)):
                answer = worked(sort, numbers)
                self.assertEqual(answer, expected)
                self.assertIs(type(answer), type(expected))

    def test_sum_is_the_sum_of_all(self):
        self.check("sum", [
            ([1, 2, 3], 6),
            ([3, 2, 1], 6),
            ([7], 7),
            ([0], 0),
            ([5, 5, 5, 5], 20),
            ([10, -3], 7),
            ([4, -4], 0),
        ])

    def test_sum_of_none_is_nought(self):
        self.check("sum", [([], 0)])

    def test_sum_below_nought_does_not_fail(self):
        self.check("sum", [([-1], -1), ([1, -2], -1), ([-3, -3, -3], -9), ([-5, 2], -3)])

    def test_sum_of_great_numbers_and_of_many(self):
        self.check("sum", [
            ([GREATEST], GREATEST),
            ([GREATEST, 1], 10 ** 100),
            ([LEAST, LEAST], 2 * LEAST),
            ([GREATEST, 1, LEAST], 1),
            ([HUNDRED_FIGURES, 1], HUNDRED_FIGURES + 1),
            (list(range(1000)), 499500),
            ([GREATEST] * 1000, 1000 * GREATEST),
            ([1] * 1003, 1003),
        ])

    def test_most_is_the_greatest(self):
        self.check("most", [
            ([1, 2, 3], 3),
            ([3, 2, 1], 3),
            ([1, 3, 2], 3),
            ([7], 7),
            ([0], 0),
            ([5, 5, 5], 5),
            ([2, 5, 5, 1], 5),
            ([-9, 4], 4),
            ([-9, 0], 0),
        ])

    def test_most_below_nought_does_not_fail(self):
        self.check("most", [([-1], -1), ([-3, -2, -5], -2), ([-4, -4], -4)])

    def test_most_of_none_fails(self):
        self.check("most", [([], None)])

    def test_most_of_great_numbers_and_of_many(self):
        self.check("most", [
            ([HUNDRED_FIGURES, HUNDRED_FIGURES + 1], HUNDRED_FIGURES + 1),
            ([GREATEST, GREATEST - 1], GREATEST),
            ([LEAST], LEAST),
            ([LEAST, LEAST + 1], LEAST + 1),
            ([9, HUNDRED_FIGURES], HUNDRED_FIGURES),
            (list(range(1000)), 999),
            ([-1] * 999 + [0], 0),
            ([0] + [-1] * 999, 0),
        ])

    def test_take_is_the_first_less_all_others(self):
        self.check("take", [
            ([10, 2, 3], 5),
            ([10, 3, 2], 5),
            ([7], 7),
            ([20, 5, 5, 5], 5),
            ([5, -2], 7),
            ([5, -2, 4], 3),
            ([-1, -3], 2),
            ([0, -1], 1),
        ])

    def test_take_to_just_nought_makes_nought(self):
        self.check("take", [
            ([0], 0),
            ([5, 5], 0),
            ([5, 2, 3], 0),
            ([0, 0, 0], 0),
            ([-4, -4], 0),
            ([1, 3, -2], 0),
        ])

    def test_take_to_below_nought_fails(self):
        self.check("take", [
            ([-1], None),
            ([-7], None),
            ([5, 6], None),
            ([0, 1], None),
            ([5, 3, 3], None),
            ([2, 3, 10], None),
            ([-5, -4], None),
            ([-4, 1], None),
        ])

    def test_take_is_judged_by_its_end_alone(self):
        self.check("take", [([1, 5, -9], 5), ([-1, -1], 0), ([1, -9, 5], 5), ([3, -9, 13], None)])

    def test_take_of_none_fails(self):
        self.check("take", [([], None)])

    def test_take_of_great_numbers_and_of_many(self):
        self.check("take", [
            ([GREATEST], GREATEST),
            ([GREATEST, GREATEST], 0),
            ([GREATEST, GREATEST - 1], 1),
            ([GREATEST - 1, GREATEST], None),
            ([LEAST], None),
            ([LEAST, LEAST], 0),
            ([GREATEST, LEAST], 2 * GREATEST),
            ([1000] + [1] * 999, 1),
            ([999] + [1] * 999, 0),
            ([998] + [1] * 999, None),
            ([998] + [1] * 998 + [-1], 1),
        ])

    def test_a_text_that_is_no_sort_is_refused(self):
        for sort in NO_SORTS:
            for numbers in ([], [1], [3, 2, 1], [-1]):
                with self.subTest(sort=sort, numbers=numbers):
                    with self.assertRaises(NoSort):
                        worked(sort, numbers)

    def test_the_refusal_is_taken_as_each_class_above_it(self):
        for above in (YardError, ValueError):
            for numbers in ([], [1, 2]):
                with self.subTest(above=above.__name__, numbers=numbers):
                    with self.assertRaises(above) as caught:
                        worked("Sum", numbers)
                    self.assertIs(type(caught.exception), NoSort)

    def test_a_failing_is_not_a_refusal(self):
        for sort, numbers in (("most", []), ("take", []), ("take", [-1]), ("take", [1, 2])):
            with self.subTest(sort=sort, numbers=numbers):
                self.assertIsNone(worked(sort, numbers))

    def test_the_list_is_as_it_was(self):
        for sort in SORTS:
            for numbers in ([], [2], [-2], [1, 3, 2, 3], [9, -1, 4], list(range(1000))):
                with self.subTest(sort=sort, numbers=numbers[:9]):
                    before = list(numbers)
                    worked(sort, numbers)
                    self.assertEqual(numbers, before)

    def test_the_list_is_as_it_was_behind_a_refusal(self):
        numbers = [3, 1, 2]
        with self.assertRaises(NoSort):
            worked("least", numbers)
        self.assertEqual(numbers, [3, 1, 2])

    def test_nothing_is_kept_of_an_earlier_call(self):
        numbers = [5, 2]
        for sort, first, later in (("sum", 7, 11), ("most", 5, 9), ("take", 3, 7)):
            with self.subTest(sort=sort):
                numbers[0] = 5
                answer = worked(sort, numbers)
                numbers[0] = 9
                self.assertEqual(answer, first)
                self.assertEqual(worked(sort, numbers), later)

    def test_the_arguments_bear_their_names(self):
        self.assertEqual(list(inspect.signature(worked).parameters), ["sort", "numbers"])
        self.assertEqual(worked(sort="take", numbers=[3, 1]), 2)


if __name__ == "__main__":
    unittest.main()
