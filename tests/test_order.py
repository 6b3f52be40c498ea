"""Point 8: which of two amounts comes ahead, and amounts in order."""

import itertools
import unittest

from checks import (
    GREATEST,
    HUNDRED,
    MEASURES,
    SEVENTY,
    SOME_VALUES,
    VALUES,
    VILLAGE,
    plain_is_amount,
    plain_value,
    small_lists,
    unchanged,
)
from peatrick.order import ahead, in_order
from peatrick.parts import amount_of

# The least first. In many two neighbours the parts behind the one that settles it lean the other way.
RISING = [
    [-GREATEST, 4, 19, 11],
    [-SEVENTY, 0, 0, 0],
    [-10, 4, 19, 11],
    [-9, 0, 0, 1],
    [-2, 4, 19, 11],
    [-1, 0, 0, 0],
    [-1, 4, 19, 11],
    [0, 0, 0, 0],
    [0, 0, 0, 11],
    [0, 0, 1, 0],
    [0, 0, 9, 11],
    [0, 0, 10, 2],
    [0, 0, 19, 11],
    [0, 1, 0, 0],
    [1, 0, 2, 3],
    [2, 0, 0, 0],
    [9, 4, 19, 11],
    [10, 0, 0, 0],
    [SEVENTY, 0, 0, 0],
    [GREATEST, 0, 0, 0],
]


class Ahead(unittest.TestCase):
    def check(self, one, other, expected):
        # True and False themselves, not something that counts as them.
        self.assertIs(unchanged(self, ahead, one, other), expected, (one, other))

    def check_both_ways(self, lesser, greater):
        self.check(lesser, greater, True)
        self.check(greater, lesser, False)

    def test_alike(self):
        for steps in MEASURES:
            for value in VALUES:
                self.check(amount_of(steps, value), amount_of(steps, value), False)
        amount = [1, 0, 2, 3]
        self.check(amount, amount, False)

    def test_first_part_alone(self):
        self.check_both_ways([1, 0, 2, 3], [2, 0, 2, 3])
        self.check_both_ways([9, 0, 2, 3], [10, 0, 2, 3])
        self.check_both_ways([-1, 0, 2, 3], [0, 0, 2, 3])
        self.check_both_ways([-10, 0, 2, 3], [-9, 0, 2, 3])
        self.check_both_ways([-1, 0, 2, 3], [1, 0, 2, 3])
        self.check_both_ways([-2, 0, 2, 3], [1, 0, 2, 3])

    def test_last_part_alone(self):
        self.check_both_ways([1, 0, 2, 3], [1, 0, 2, 4])
        self.check_both_ways([1, 0, 2, 9], [1, 0, 2, 10])
        self.check_both_ways([-1, 0, 2, 3], [-1, 0, 2, 4])
        self.check_both_ways([-1, 4, 19, 0], [-1, 4, 19, 11])

    def test_parts_with_opposite_leanings(self):
        self.check_both_ways([0, 4, 19, 11], [1, 0, 0, 0])
        self.check_both_ways([1, 0, 19, 11], [1, 1, 0, 0])
        self.check_both_ways([1, 0, 2, 11], [1, 0, 3, 0])
        self.check_both_ways([-2, 4, 19, 11], [-1, 0, 0, 0])
        self.check_both_ways([1, 1, 0, 11], [1, 2, 19, 0])
        self.check_both_ways([-1, 4, 19, 11], [0, 0, 0, 0])

    def test_measure_without_steps(self):
        self.check_both_ways([9], [10])
        self.check_both_ways([-10], [-9])
        self.check_both_ways([-GREATEST], [SEVENTY])
        self.check_both_ways([GREATEST - 1], [GREATEST])

    def test_hundred_steps(self):
        highest = [step - 1 for step in HUNDRED[::-1]]
        self.check_both_ways([-1] + highest, [0] * 101)
        self.check_both_ways([6] + highest, [7] + [0] * 100)
        self.check_both_ways([0] * 101, [0] * 100 + [1])
        self.check_both_ways([-SEVENTY] + highest[:-1] + [0], [-SEVENTY] + highest)

    def test_every_two_that_rise(self):
        for lesser, greater in itertools.combinations(RISING, 2):
            self.check_both_ways(lesser, greater)

    def test_against_the_values(self):
        for steps in MEASURES:
            for value, other in itertools.product(SOME_VALUES, repeat=2):
                self.check(amount_of(steps, value), amount_of(steps, other), value < other)

    def test_every_two_small_amounts(self):
        for steps in ([], [2], [2, 3], [3, 2]):
            lists = small_lists(-2, 2, len(steps) + 1)
            amounts = [parts for parts in lists if plain_is_amount(steps, parts)]
            for one, other in itertools.product(amounts, repeat=2):
                self.check(one, other, plain_value(steps, one) < plain_value(steps, other))


class InOrder(unittest.TestCase):
    def check(self, amounts, expected):
        answer = unchanged(self, in_order, amounts)
        self.assertIs(type(answer), list)
        self.assertTrue(all(type(parts) is list for parts in answer))
        self.assertTrue(all(type(part) is int for parts in answer for part in parts))
        self.assertEqual(answer, expected)

    def test_no_amount(self):
        self.check([], [])

    def test_one(self):
        for parts in ([0], [-7], [1, 0, 2, 3], [-1, 4, 19, 11], amount_of(HUNDRED, -SEVENTY)):
            self.check([parts], [parts])

    def test_two(self):
        one, other = [-1, 4, 19, 11], [0, 0, 0, 0]
        self.check([one, other], [one, other])
        self.check([other, one], [one, other])

    def test_every_arrangement(self):
        rising = [[-2, 4, 19, 11], [-1, 0, 0, 0], [0, 0, 9, 0], [0, 0, 10, 0], [0, 0, 10, 0]]
        for arranged in itertools.permutations(rising):
            self.check(list(arranged), rising)

    def test_in_order_already_and_the_other_way_round(self):
        self.check(RISING, RISING)
        self.check(RISING[::-1], RISING)

    def test_alike_as_often_as_they_were_there(self):
        self.check([[1, 0, 2, 3], [1, 0, 2, 3]], [[1, 0, 2, 3], [1, 0, 2, 3]])
        one, other = [-1, 4, 19, 11], [1, 0, 2, 3]
        self.check([other, one, other, one, other], [one, one, other, other, other])
        self.check([list(one), other, list(one), [0, 0, 0, 0]], [one, one, [0, 0, 0, 0], other])
        self.check([[0]] * 100, [[0]] * 100)

    def test_hundred(self):
        # 37 and 101 have no common divisor, so each value from -50 to 50 comes once.
        shuffled = [(37 * place) % 101 - 50 for place in range(101)]
        shuffled.remove(50)
        for steps in MEASURES:
            rising = [amount_of(steps, value) for value in range(-50, 50)]
            self.check([amount_of(steps, value) for value in shuffled], rising)
            self.check(rising, rising)
            self.check(rising[::-1], rising)

    def test_hundred_with_some_alike(self):
        values = [SOME_VALUES[(5 * place) % len(SOME_VALUES)] for place in range(100)]
        for steps in MEASURES:
            expected = [amount_of(steps, value) for value in sorted(values)]
            self.check([amount_of(steps, value) for value in values], expected)

    def test_nothing_is_refused_beyond_the_bounds(self):
        steps = [2 + place % 5 for place in range(120)]
        values = [(-1) ** place * 10 ** (90 - place % 45) for place in range(130)]
        expected = [amount_of(steps, value) for value in sorted(values)]
        self.check([amount_of(steps, value) for value in values], expected)

    def test_measure_of_the_document(self):
        values = [1227, -1, 0, 1200, 1199, -1200, -1201, 12, 11]
        expected = [amount_of(VILLAGE, value) for value in sorted(values)]
        self.check([amount_of(VILLAGE, value) for value in values], expected)


if __name__ == "__main__":
    unittest.main()
