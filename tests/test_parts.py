"""Points 2 to 5: measures, amounts and values."""

import unittest

from checks import (
    GREATEST,
    HUNDRED,
    MEASURES,
    SEVENTY,
    VALUES,
    VILLAGE,
    expect_amount,
    plain_is_amount,
    plain_value,
    small_lists,
    unchanged,
    worths,
)
from peatrick.parts import amount_of, is_amount, value_of


class IsAmount(unittest.TestCase):
    def check(self, steps, parts, expected):
        with self.subTest(steps=steps, parts=parts):
            # True and False themselves, not something that counts as them.
            self.assertIs(unchanged(self, is_amount, steps, parts), expected)

    def test_amounts(self):
        self.check(VILLAGE, [1, 0, 2, 3], True)
        self.check(VILLAGE, [-1, 4, 19, 11], True)
        self.check(VILLAGE, [0, 0, 0, 0], True)

    def test_empty_list(self):
        for steps in MEASURES:
            self.check(steps, [], False)

    def test_a_part_too_few_or_too_many(self):
        self.check(VILLAGE, [1, 0, 2], False)
        self.check(VILLAGE, [1, 0, 2, 3, 0], False)
        self.check(VILLAGE, [0, 1, 0, 2, 3], False)
        for steps in MEASURES:
            self.check(steps, [0] * len(steps), False)
            self.check(steps, [0] * (len(steps) + 1), True)
            self.check(steps, [0] * (len(steps) + 2), False)

    def test_a_part_below_nought_behind_the_first(self):
        for parts in ([1, -1, 2, 3], [1, 0, -1, 3], [1, 0, 2, -1], [-1, -1, 0, 0], [0, 0, 0, -GREATEST]):
            self.check(VILLAGE, parts, False)

    def test_a_part_at_and_about_its_step(self):
        for steps in MEASURES:
            for unit, step in enumerate(steps):
                for part, expected in ((step - 1, True), (step, False), (step + 1, False), (-1, False)):
                    parts = [0] * (len(steps) + 1)
                    parts[-1 - unit] = part
                    self.check(steps, parts, expected)

    def test_any_first_part(self):
        for first in (-1, -5, -6, -GREATEST, 5, 12, 20, 21, 1000, GREATEST, 10 ** 80, -(10 ** 80)):
            self.check(VILLAGE, [first, 4, 19, 11], True)
            self.check(VILLAGE, [first, 0, 0, 12], False)

    def test_measure_without_steps(self):
        for part in (0, 1, -1, GREATEST, -GREATEST):
            self.check([], [part], True)
            self.check([], [part, 0], False)
            self.check([], [0, part], False)

    def test_steps_stand_the_other_way_round(self):
        self.check([2, 3], [0, 2, 1], True)
        self.check([2, 3], [0, 1, 2], False)
        self.check([3, 2], [0, 1, 2], True)
        self.check([3, 2], [0, 2, 1], False)
        self.check(VILLAGE, [0, 11, 19, 4], False)
        self.check([5, 20, 12], [0, 11, 19, 4], True)

    def test_hundred_steps(self):
        highest = [step - 1 for step in HUNDRED[::-1]]
        self.check(HUNDRED, [-1] + highest, True)
        self.check(HUNDRED, [-1] + highest[::-1], False)

    def test_every_small_list(self):
        for steps in ([], [2], [3], [2, 3], [3, 2], [4, 2, 3]):
            for length in range(5):
                for parts in small_lists(-1, 4, length):
                    self.check(steps, parts, plain_is_amount(steps, parts))


class Values(unittest.TestCase):
    def check_there_and_back(self, steps, value):
        amount = unchanged(self, amount_of, steps, value)
        expect_amount(self, steps, amount, value)
        back = unchanged(self, value_of, steps, amount)
        self.assertIs(type(back), int)
        self.assertTrue(back == value)

    def test_worths_of_the_document(self):
        units = [[0, 0, 0, 1], [0, 0, 1, 0], [0, 1, 0, 0], [1, 0, 0, 0]]
        for parts, worth in zip(units, [1, 12, 240, 1200]):
            self.assertEqual(value_of(VILLAGE, parts), worth)
            self.assertEqual(amount_of(VILLAGE, worth), parts)

    def test_amounts_of_the_document(self):
        examples = [(1227, [1, 0, 2, 3]), (-1, [-1, 4, 19, 11]), (0, [0, 0, 0, 0])]
        for value, parts in examples:
            self.assertEqual(amount_of(VILLAGE, value), parts)
            self.assertEqual(value_of(VILLAGE, parts), value)

    def test_about_the_worth_of_each_unit(self):
        for steps in MEASURES:
            for worth in worths(steps):
                for value in (worth - 1, worth, worth + 1, 1 - worth, -worth, -worth - 1):
                    self.check_there_and_back(steps, value)

    def test_there_and_back(self):
        for steps in MEASURES:
            for value in VALUES:
                self.check_there_and_back(steps, value)

    def test_measure_without_steps(self):
        for value in VALUES:
            self.assertEqual(amount_of([], value), [value])
            self.assertEqual(value_of([], [value]), value)

    def test_order_of_steps_and_parts(self):
        self.assertEqual(value_of([2, 3], [1, 2, 1]), 11)
        self.assertEqual(value_of([3, 2], [1, 1, 2]), 11)
        self.assertEqual(amount_of([2, 3], 11), [1, 2, 1])
        self.assertEqual(amount_of([3, 2], 11), [1, 1, 2])
        self.assertEqual(amount_of([5, 20, 12], 1227), [1, 0, 5, 2])
        self.assertEqual(value_of([5, 20, 12], [1, 0, 5, 2]), 1227)

    def test_hundred_steps(self):
        highest = [step - 1 for step in HUNDRED[::-1]]
        self.assertEqual(amount_of(HUNDRED, -1), [-1] + highest)
        self.assertTrue(value_of(HUNDRED, [-1] + highest) == -1)
        self.assertTrue(value_of(HUNDRED, [1] + [0] * 100) == worths(HUNDRED)[-1])
        self.assertTrue(value_of(HUNDRED, [-SEVENTY] + [0] * 100) == -SEVENTY * worths(HUNDRED)[-1])

    def test_seventy_figures(self):
        for value in (SEVENTY, -SEVENTY, GREATEST, -GREATEST):
            self.assertEqual(len(str(abs(value))), 70)
            for steps in MEASURES:
                self.check_there_and_back(steps, value)
        self.assertEqual(amount_of([10], GREATEST), [10 ** 69 - 1, 9])
        self.assertEqual(amount_of([10], -GREATEST), [-(10 ** 69), 1])

    def test_hundred_steps_of_seventy_figures(self):
        steps = [GREATEST - place for place in range(100)]
        parts = [-SEVENTY] + [SEVENTY + place for place in range(100)]
        value = plain_value(steps, parts)
        self.assertTrue(value_of(steps, parts) == value)
        self.assertTrue(amount_of(steps, value) == parts)

    def test_just_one_amount_for_each_value(self):
        for steps in ([], [2], [3], [2, 3], [3, 2], [2, 3, 2]):
            worth = worths(steps)[-1]
            amounts = [parts for parts in small_lists(-3, 3, len(steps) + 1) if is_amount(steps, parts)]
            values = sorted(value_of(steps, parts) for parts in amounts)
            self.assertEqual(values, list(range(-3 * worth, 4 * worth)))
            for parts in amounts:
                self.assertEqual(amount_of(steps, value_of(steps, parts)), parts)

    def test_nothing_is_refused_beyond_the_bounds(self):
        steps = [2 + place % 5 for place in range(120)]
        for value in (10 ** 90, -(10 ** 90)):
            self.check_there_and_back(steps, value)
            self.check_there_and_back([10 ** 80], value)


if __name__ == "__main__":
    unittest.main()
