"""Point 6: sum, difference, total, an amount taken so many times."""

import unittest

from checks import GREATEST, HUNDRED, MEASURES, SEVENTY, SOME_VALUES, VILLAGE, expect_amount, plain_value, unchanged
from peatrick.parts import amount_of
from peatrick.sums import minus, plus, times, total


def amounts_of_some_values(steps):
    return [amount_of(steps, value) for value in SOME_VALUES]


class PlusAndMinus(unittest.TestCase):
    def test_against_the_values(self):
        for steps in MEASURES:
            amounts = amounts_of_some_values(steps)
            for one, one_value in zip(amounts, SOME_VALUES):
                for other, other_value in zip(amounts, SOME_VALUES):
                    answer = unchanged(self, plus, steps, one, other)
                    expect_amount(self, steps, answer, one_value + other_value)
                    answer = unchanged(self, minus, steps, one, other)
                    expect_amount(self, steps, answer, one_value - other_value)

    def test_carries_over_several_units(self):
        self.assertEqual(plus(VILLAGE, [0, 4, 19, 11], [0, 0, 0, 1]), [1, 0, 0, 0])
        self.assertEqual(plus(VILLAGE, [1, 4, 19, 11], [2, 4, 19, 11]), [4, 4, 19, 10])
        self.assertEqual(plus(VILLAGE, [-1, 4, 19, 11], [0, 0, 0, 1]), [0, 0, 0, 0])
        self.assertEqual(minus(VILLAGE, [1, 0, 0, 0], [0, 0, 0, 1]), [0, 4, 19, 11])
        self.assertEqual(minus(VILLAGE, [2, 0, 0, 3], [0, 0, 1, 4]), [1, 4, 18, 11])

    def test_carry_over_a_hundred_units(self):
        highest = [step - 1 for step in HUNDRED[::-1]]
        one = [0] * 100 + [1]
        self.assertEqual(plus(HUNDRED, [6] + highest, one), [7] + [0] * 100)
        self.assertEqual(minus(HUNDRED, [7] + [0] * 100, one), [6] + highest)

    def test_below_nought(self):
        self.assertEqual(minus(VILLAGE, [0, 0, 0, 0], [0, 0, 0, 1]), [-1, 4, 19, 11])
        self.assertEqual(plus(VILLAGE, [-1, 4, 19, 11], [-1, 4, 19, 11]), [-1, 4, 19, 10])
        self.assertEqual(plus(VILLAGE, [-2, 0, 0, 0], [1, 0, 2, 3]), [-1, 0, 2, 3])

    def test_minus_both_ways_round(self):
        one, other = [1, 0, 2, 3], [0, 1, 0, 5]
        self.assertEqual(minus(VILLAGE, one, other), [0, 4, 1, 10])
        self.assertEqual(minus(VILLAGE, other, one), [-1, 0, 18, 2])
        self.assertEqual(minus([], [3], [8]), [-5])
        self.assertEqual(minus([], [8], [3]), [5])

    def test_one_list_handed_in_twice(self):
        amount = [1, 0, 2, 3]
        self.assertEqual(plus(VILLAGE, amount, amount), [2, 0, 4, 6])
        self.assertEqual(minus(VILLAGE, amount, amount), [0, 0, 0, 0])
        self.assertEqual(amount, [1, 0, 2, 3])


class Total(unittest.TestCase):
    def check(self, steps, amounts):
        answer = unchanged(self, total, steps, amounts)
        expect_amount(self, steps, answer, sum(plain_value(steps, parts) for parts in amounts))

    def test_of_no_amount(self):
        self.assertEqual(total(VILLAGE, []), [0, 0, 0, 0])
        self.assertEqual(total([], []), [0])
        for steps in MEASURES:
            self.check(steps, [])

    def test_of_one(self):
        for parts in ([1, 0, 2, 3], [-1, 4, 19, 11], [0, 0, 0, 0]):
            self.assertEqual(unchanged(self, total, VILLAGE, [parts]), parts)
        for steps in MEASURES:
            for parts in amounts_of_some_values(steps):
                self.check(steps, [parts])

    def test_of_many(self):
        amounts = [[1, 0, 2, 3], [-1, 4, 19, 11], [0, 4, 19, 11], [0, 0, 0, 0]]
        self.assertEqual(unchanged(self, total, VILLAGE, amounts), [2, 0, 2, 1])
        self.assertEqual(total(VILLAGE, [[-1, 4, 19, 11]] * 3), [-1, 4, 19, 9])
        for steps in MEASURES:
            amounts = amounts_of_some_values(steps)
            self.check(steps, amounts)
            self.check(steps, amounts[:2])
            self.check(steps, amounts[:-1] * 40)


class Times(unittest.TestCase):
    def test_of_the_village(self):
        self.assertEqual(times(VILLAGE, [1, 0, 2, 3], 0), [0, 0, 0, 0])
        self.assertEqual(times(VILLAGE, [1, 0, 2, 3], 1), [1, 0, 2, 3])
        self.assertEqual(times(VILLAGE, [0, 1, 0, 5], 5), [1, 0, 2, 1])
        self.assertEqual(times(VILLAGE, [0, 0, 0, 1], -1), [-1, 4, 19, 11])
        self.assertEqual(times(VILLAGE, [-1, 4, 19, 11], -1), [0, 0, 0, 1])
        self.assertEqual(times(VILLAGE, [0, 4, 19, 11], 2), [1, 4, 19, 10])
        self.assertEqual(times([], [3], -4), [-12])

    def test_against_the_values(self):
        for steps in MEASURES:
            for parts, value in zip(amounts_of_some_values(steps), SOME_VALUES):
                for many in (0, 1, 2, 7, 1200, -1, -2, -13, SEVENTY, -SEVENTY, GREATEST, -GREATEST):
                    answer = unchanged(self, times, steps, parts, many)
                    expect_amount(self, steps, answer, value * many)


class BeyondTheBounds(unittest.TestCase):
    def test_nothing_is_refused(self):
        steps = [2 + place % 5 for place in range(120)]
        one, other = amount_of(steps, 10 ** 90), amount_of(steps, -7 * 10 ** 80)
        expect_amount(self, steps, plus(steps, one, other), 10 ** 90 - 7 * 10 ** 80)
        expect_amount(self, steps, minus(steps, one, other), 10 ** 90 + 7 * 10 ** 80)
        expect_amount(self, steps, total(steps, [one, other, one]), 2 * 10 ** 90 - 7 * 10 ** 80)
        expect_amount(self, steps, times(steps, other, 10 ** 75), -7 * 10 ** 155)


if __name__ == "__main__":
    unittest.main()
