"""What several test files need: sample measures, the document's own definitions, and checked calls."""

import copy
import itertools

from peatrick.errors import PeatError

VILLAGE = [12, 20, 5]
HUNDRED = [2 + (7 * place) % 31 for place in range(100)]
SEVENTY = int("7301946582" * 7)
GREATEST = 10 ** 70 - 1

# Their steps differ, and some are each other's mirror, so that no order of steps or parts can be confused.
MEASURES = [
    [],
    [2],
    [7],
    [2, 3],
    [3, 2],
    [2, 3, 5],
    [5, 3, 2],
    VILLAGE,
    VILLAGE[::-1],
    [10 ** 69 + 7, 2, 10 ** 69 + 9],
    HUNDRED,
]

VALUES = sorted(
    set(range(-65, 66))
    | {1227, -1227, 1199, 1200, 1201, -1199, -1200, -1201}
    | {SEVENTY, -SEVENTY, GREATEST, -GREATEST, 10 ** 69, -(10 ** 69)}
)

# Fewer, for what is tried with two of them at once.
SOME_VALUES = [0, 1, -1, 11, 12, 1199, 1227, -1200, -1201, SEVENTY, -SEVENTY, GREATEST, -GREATEST]


def worths(steps):
    """Point 3: the worth of each unit, the least unit's first."""
    found = [1]
    for step in steps:
        found.append(found[-1] * step)
    return found


def plain_value(steps, parts):
    """Point 4: the sum of the parts, each times the worth of its unit."""
    greatest_first = worths(steps)[::-1]
    assert len(parts) == len(greatest_first)
    return sum(part * worth for part, worth in zip(parts, greatest_first))


def plain_is_amount(steps, parts):
    """Point 4: what is an amount of the measure, unit by unit."""
    units = len(steps) + 1
    if len(parts) != units:
        return False
    return all(0 <= parts[units - 1 - unit] < steps[unit] for unit in range(units - 1))


def small_lists(low, high, length):
    """Every list of that length with members from low to high."""
    return [list(members) for members in itertools.product(range(low, high + 1), repeat=length)]


def unchanged(test, function, *handed):
    """The function's answer, once it is sure that what was handed in is as it was."""
    before = copy.deepcopy(handed)
    answer = function(*handed)
    test.assertTrue(before == handed, "what was handed in was changed")
    return answer


def refused(test, error, function, *handed):
    """The function refuses with that error, a PeatError and a ValueError, and what was handed in is as it was."""
    before = copy.deepcopy(handed)
    for taken in (error, PeatError, ValueError):
        with test.assertRaises(taken, msg=repr(handed)) as caught:
            function(*handed)
        test.assertIs(type(caught.exception), error)
    test.assertTrue(before == handed, "what was handed in was changed")


def expect_amount(test, steps, answer, value):
    """The answer is a list of whole numbers, an amount of the measure, and has the value."""
    test.assertIs(type(answer), list)
    test.assertEqual({type(part) for part in answer}, {int})
    test.assertTrue(plain_is_amount(steps, answer), "no amount of the measure")
    test.assertTrue(plain_value(steps, answer) == value, "an amount of another value")
