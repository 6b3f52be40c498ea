"""Point 7: an amount shared out among some."""

import unittest

from checks import (
    GREATEST,
    HUNDRED,
    MEASURES,
    SEVENTY,
    SOME_VALUES,
    VALUES,
    VILLAGE,
    expect_amount,
    plain_value,
    refused,
    unchanged,
    worths,
)
from peatrick.errors import NoShare
from peatrick.parts import amount_of
from peatrick.sharing import shared


class Shared(unittest.TestCase):
    def check(self, steps, parts, many):
        answer = unchanged(self, shared, steps, parts, many)
        self.assertIs(type(answer), tuple)
        self.assertEqual(len(answer), 2)
        each, rest = answer
        self.assertIs(type(rest), int)
        self.assertTrue(0 <= rest < many, "a rest below nought, or not less than the number")
        value = plain_value(steps, parts)
        expect_amount(self, steps, each, (value - rest) // many)
        self.assertTrue(plain_value(steps, each) * many + rest == value)

    def test_sharings_of_the_document(self):
        self.assertEqual(unchanged(self, shared, VILLAGE, [1, 0, 2, 3], 5), ([0, 1, 0, 5], 2))
        self.assertEqual(unchanged(self, shared, VILLAGE, [-1, 4, 19, 11], 5), ([-1, 4, 19, 11], 4))

    def test_among_one(self):
        for steps in MEASURES:
            for value in VALUES:
                parts = amount_of(steps, value)
                self.assertTrue(unchanged(self, shared, steps, parts, 1) == (parts, 0))

    def test_nought(self):
        for many in (1, 2, 1200, GREATEST):
            self.assertEqual(shared(VILLAGE, [0, 0, 0, 0], many), ([0, 0, 0, 0], 0))

    def test_no_rest(self):
        self.assertEqual(shared(VILLAGE, [1, 0, 0, 0], 1200), ([0, 0, 0, 1], 0))
        self.assertEqual(shared(VILLAGE, [1, 0, 0, 0], 2), ([0, 2, 10, 0], 0))
        self.assertEqual(shared(VILLAGE, [-1, 0, 0, 0], 1200), ([-1, 4, 19, 11], 0))
        self.assertEqual(shared(VILLAGE, [-3, 0, 0, 0], 3), ([-1, 0, 0, 0], 0))

    def test_more_shares_than_the_value(self):
        self.assertEqual(shared(VILLAGE, [1, 0, 2, 3], 1228), ([0, 0, 0, 0], 1227))
        self.assertEqual(shared(VILLAGE, [1, 0, 2, 3], GREATEST), ([0, 0, 0, 0], 1227))
        self.assertEqual(shared(VILLAGE, [-1, 4, 19, 11], 1228), ([-1, 4, 19, 11], 1227))
        self.assertEqual(shared(VILLAGE, [-1, 4, 19, 11], GREATEST), ([-1, 4, 19, 11], GREATEST - 1))

    def test_as_many_shares_as_the_value(self):
        for value in (1, 1227, SEVENTY, GREATEST):
            self.assertEqual(shared(VILLAGE, amount_of(VILLAGE, value), value), ([0, 0, 0, 1], 0))
            self.assertEqual(shared(VILLAGE, amount_of(VILLAGE, -value), value), ([-1, 4, 19, 11], 0))

    def test_against_the_values(self):
        for steps in MEASURES:
            for value in SOME_VALUES:
                parts = amount_of(steps, value)
                about = [abs(value) + 1, max(abs(value), 1), max(abs(value) - 1, 1)]
                for many in about + [1, 2, 3, 5, 12, 1200, 1201, SEVENTY, GREATEST - 1, GREATEST]:
                    self.check(steps, parts, many)

    def test_every_small_sharing(self):
        for steps in ([], [2], [2, 3], [3, 2]):
            for value in range(-40, 41):
                for many in range(1, 20):
                    self.check(steps, amount_of(steps, value), many)

    def test_measure_without_steps(self):
        self.assertEqual(shared([], [17], 5), ([3], 2))
        self.assertEqual(shared([], [-17], 5), ([-4], 3))
        self.assertEqual(shared([], [GREATEST], 10), ([10 ** 69 - 1], 9))
        self.assertEqual(shared([], [-GREATEST], 10), ([-(10 ** 69)], 1))

    def test_hundred_steps(self):
        highest = [step - 1 for step in HUNDRED[::-1]]
        self.assertEqual(shared(HUNDRED, [-1] + highest, SEVENTY), ([-1] + highest, SEVENTY - 1))
        self.assertEqual(shared(HUNDRED, [7] + [0] * 100, 7), ([1] + [0] * 100, 0))
        self.check(HUNDRED, [SEVENTY] + highest, GREATEST)
        self.check(HUNDRED, [-SEVENTY] + highest, GREATEST)
        self.assertTrue(shared(HUNDRED, [1] + [0] * 100, worths(HUNDRED)[-1]) == ([0] * 100 + [1], 0))

    def test_hundred_steps_of_seventy_figures(self):
        steps = [GREATEST - place for place in range(100)]
        for first in (SEVENTY, -SEVENTY):
            for many in (1, 7, SEVENTY, GREATEST):
                self.check(steps, [first] + [SEVENTY + place for place in range(100)], many)

    def test_fewer_shares_than_one_are_refused(self):
        for steps in MEASURES:
            for value in (0, 1, -1, 1227, SEVENTY, -SEVENTY):
                for many in (0, -1, -2, -5, -1227, -SEVENTY, -GREATEST):
                    refused(self, NoShare, shared, steps, amount_of(steps, value), many)

    def test_nothing_else_is_refused_beyond_the_bounds(self):
        steps = [2 + place % 5 for place in range(120)]
        for value in (10 ** 90, -(10 ** 90)):
            for many in (1, 7, 10 ** 80, 10 ** 95):
                self.check(steps, amount_of(steps, value), many)
        refused(self, NoShare, shared, steps, amount_of(steps, 10 ** 90), -(10 ** 80))


if __name__ == "__main__":
    unittest.main()
