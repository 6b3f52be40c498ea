"""Points 9 and 10: amounts written, and lines read."""

import itertools
import re
import unittest

from checks import GREATEST, HUNDRED, MEASURES, SEVENTY, VALUES, VILLAGE, plain_is_amount, refused, unchanged
from peatrick.errors import NoAmount
from peatrick.notes import read, shown
from peatrick.parts import amount_of

# Every sign that a line may hold.
SIGNS = [chr(code) for code in range(ord(" "), ord("~") + 1) if chr(code) != "%"]
FIGURES = "0123456789"
NO_FIGURES = [sign for sign in SIGNS if sign not in FIGURES]

WRITTEN = re.compile("(0|-?[1-9][0-9]*)(:(0|[1-9][0-9]*))*")

# Point 10 names them for the measure of point 1.
REFUSED_IN_THE_DOCUMENT = [
    "1:0:2",
    "1:0:2:3:0",
    "1:5:0:0",
    "1:0:-2:3",
    "1:00:2:3",
    "01:0:2:3",
    "-01:0:2:3",
    "-0:0:2:3",
    "+1:0:2:3",
    "1: 0:2:3",
    "1:0:2:",
    "",
]


def plain_reading(steps, line):
    """Points 9 and 10: the amount that is written as the line, or None where there is none."""
    if WRITTEN.fullmatch(line) is None:
        return None
    parts = [int(text) for text in line.split(":")]
    return parts if plain_is_amount(steps, parts) else None


def lines_a_sign_away(line):
    """Every line that has one sign of this one taken out, put in, or in the place of another."""
    found = set()
    for place in range(len(line) + 1):
        found.update(line[:place] + sign + line[place:] for sign in SIGNS)
        if place < len(line):
            found.add(line[:place] + line[place + 1:])
            found.update(line[:place] + sign + line[place + 1:] for sign in SIGNS)
    return sorted(found)


class Shown(unittest.TestCase):
    def check(self, parts, expected):
        answer = unchanged(self, shown, parts)
        self.assertIs(type(answer), str)
        self.assertEqual(answer, expected)

    def test_amount_of_the_document(self):
        self.check([-1, 4, 19, 11], "-1:4:19:11")

    def test_noughts(self):
        self.check([0, 0, 0, 0], "0:0:0:0")
        self.check([0], "0")
        self.check([10, 0, 10, 0], "10:0:10:0")
        self.check([-100, 0, 0, 10], "-100:0:0:10")

    def test_a_single_part(self):
        self.check([7], "7")
        self.check([-7], "-7")
        self.check([1000], "1000")

    def test_several_figures(self):
        self.check([1, 0, 2, 3], "1:0:2:3")
        self.check([120, 4, 19, 10], "120:4:19:10")
        self.check([-3, 1234567890123], "-3:1234567890123")

    def test_seventy_figures(self):
        figures = "7301946582" * 7
        self.check([SEVENTY, 0, 0, 0], figures + ":0:0:0")
        self.check([-SEVENTY, 4, 19, 11], "-" + figures + ":4:19:11")
        self.check([GREATEST], "9" * 70)
        self.check([-GREATEST], "-" + "9" * 70)
        self.check([0, SEVENTY], "0:" + figures)

    def test_hundred_steps(self):
        self.check([0] * 101, "0" + ":0" * 100)
        self.check([-12] + [10] * 100, "-12" + ":10" * 100)


class ThereAndBack(unittest.TestCase):
    def check(self, steps, parts):
        line = unchanged(self, shown, parts)
        self.assertIsNotNone(WRITTEN.fullmatch(line), line)
        answer = unchanged(self, read, steps, line)
        self.assertIs(type(answer), list)
        self.assertTrue(all(type(part) is int for part in answer))
        self.assertEqual(answer, parts)

    def test_amounts_of_the_values(self):
        for steps in MEASURES:
            for value in VALUES:
                self.check(steps, amount_of(steps, value))

    def test_any_first_part(self):
        firsts = (0, 1, -1, 9, 10, -10, 100, -100, SEVENTY, -SEVENTY, GREATEST, -GREATEST, 10 ** 69, -(10 ** 69))
        for first in firsts:
            for steps in MEASURES:
                self.check(steps, [first] + [0] * len(steps))
                self.check(steps, [first] + [step - 1 for step in steps[::-1]])

    def test_step_of_seventy_figures(self):
        for steps in ([GREATEST], [2, GREATEST], [GREATEST, 2], [SEVENTY, GREATEST, SEVENTY]):
            self.check(steps, [step - 1 for step in [0] + steps[::-1]])
            self.check(steps, [-SEVENTY] + [step // 10 for step in steps[::-1]])

    def test_nothing_is_refused_beyond_the_bounds(self):
        steps = [2 + 10 ** (place % 90) for place in range(120)]
        for first in (10 ** 90, -(10 ** 90)):
            self.check(steps, [first] + [step - 1 for step in steps[::-1]])


class Read(unittest.TestCase):
    def check(self, steps, line, expected):
        answer = unchanged(self, read, steps, line)
        self.assertIs(type(answer), list)
        self.assertEqual(answer, expected)

    def check_plainly(self, steps, line):
        expected = plain_reading(steps, line)
        if expected is None:
            refused(self, NoAmount, read, steps, line)
        else:
            self.check(steps, line, expected)

    def test_amounts(self):
        self.check(VILLAGE, "1:0:2:3", [1, 0, 2, 3])
        self.check(VILLAGE, "-1:4:19:11", [-1, 4, 19, 11])
        self.check(VILLAGE, "0:0:0:0", [0, 0, 0, 0])
        self.check(VILLAGE, "-120:0:10:10", [-120, 0, 10, 10])
        self.check([], "0", [0])
        self.check([], "-7", [-7])
        self.check([], "9" * 70, [GREATEST])
        self.check([], "-" + "9" * 70, [-GREATEST])
        self.check(HUNDRED, "-12" + ":1" * 100, [-12] + [1] * 100)

    def test_steps_stand_the_other_way_round(self):
        self.check([2, 3], "0:2:1", [0, 2, 1])
        refused(self, NoAmount, read, [2, 3], "0:1:2")
        self.check([3, 2], "0:1:2", [0, 1, 2])
        refused(self, NoAmount, read, [3, 2], "0:2:1")

    def test_every_small_line(self):
        for length in range(6):
            for signs in itertools.product("012:-+ _", repeat=length):
                for steps in ([], [2], [2, 3]):
                    self.check_plainly(steps, "".join(signs))

    def test_every_line_a_sign_away(self):
        for line in ("1:0:2:3", "-1:4:19:11", "0:0:0:0", "120:3:10:10"):
            for near in lines_a_sign_away(line):
                self.check_plainly(VILLAGE, near)
        for line in ("0", "-10", "305"):
            for near in lines_a_sign_away(line):
                self.check_plainly([], near)


class Refused(unittest.TestCase):
    def check(self, line, steps=VILLAGE):
        refused(self, NoAmount, read, steps, line)

    def check_in_each_part(self, text, from_part=0):
        """A part written so is refused wherever it stands."""
        for place in range(from_part, 4):
            parts = ["1", "1", "1", "1"]
            parts[place] = text
            self.check(":".join(parts))

    def test_lines_of_the_document(self):
        for line in REFUSED_IN_THE_DOCUMENT:
            self.check(line)

    def test_empty_line(self):
        for steps in MEASURES:
            self.check("", steps)

    def test_signs_without_figures(self):
        for steps in MEASURES:
            for line in ("-", "+", ":", " ", "--", "-:", ":-"):
                self.check(line, steps)
        for text in ("-", "+", " ", "_", "--"):
            self.check_in_each_part(text)

    def test_first_part_with_noughts_ahead(self):
        for first in ("-0", "-00", "-01", "-001", "00", "01", "001", "-0" + "9" * 69, "0" + "9" * 69):
            self.check(first + ":0:2:3")
            self.check(first, [])
            self.check(first + ":0" * 100, HUNDRED)

    def test_signs_ahead_of_the_first_part(self):
        for first in ("+1", "+0", "--1", "-+1", "+-1", "- 1", "1-", "1+"):
            self.check(first + ":0:2:3")
            self.check(first, [])

    def test_signs_ahead_of_another_part(self):
        for text in ("-1", "-0", "-2", "+1", "+0", "+2", "--1"):
            self.check_in_each_part(text, from_part=1)

    def test_noughts_ahead_of_figures(self):
        for text in ("00", "01", "001", "0000", "02"):
            self.check_in_each_part(text)

    def test_empty_parts(self):
        self.check_in_each_part("")
        for line in (":::", "::", ":1:0:2:3", "1:0:2:3:", "1::0:2:3", "1:0:2::3"):
            self.check(line)
        for line in (":", "1:", ":1"):
            self.check(line, [])
            self.check(line, [2])

    def test_a_part_too_few_and_too_many(self):
        for steps in MEASURES:
            written = ["1"] + ["0"] * len(steps)
            self.check(":".join(written[:-1]), steps)
            self.check(":".join(written + ["0"]), steps)
            self.check(":".join(["0"] + written), steps)

    def test_a_part_at_its_step_and_above_it(self):
        for steps in MEASURES:
            for unit, step in enumerate(steps):
                for part in (step, step + 1, 10 * step, GREATEST):
                    written = ["0"] * (len(steps) + 1)
                    written[-1 - unit] = str(part)
                    self.check(":".join(written), steps)

    def test_each_sign_about_the_figures_of_a_part(self):
        for place in range(4):
            for sign in NO_FIGURES:
                for text in (sign + "10", "10" + sign, "1" + sign + "0"):
                    # The one such line that an amount is written as.
                    if (place, text) != (0, "-10"):
                        parts = ["12", "3", "14", "11"]
                        parts[place] = text
                        self.check(":".join(parts), [100, 100, 100])

    def test_each_sign_about_a_single_part(self):
        for sign in NO_FIGURES:
            for text in (sign + "10", "10" + sign, "1" + sign + "0"):
                if text != "-10":
                    self.check(text, [])

    def test_texts_that_int_takes(self):
        for text in ("1_0", " 1", "1 ", " 1 ", "+1", "01", "0_1", "  1"):
            int(text)
            self.check_in_each_part(text)

    def test_texts_of_other_numbers(self):
        for text in ("1.0", "1.", "1e1", "0x1", "0b1", "0o1", "1,0", "1/1", "1j", "inf", "nan", "one", "True", "None"):
            self.check_in_each_part(text)

    def test_other_signs_in_the_place_of_the_colon(self):
        for sign in SIGNS:
            if sign != ":":
                self.check("1:0:2:3".replace(":", sign))
                for place in (1, 3, 5):
                    self.check("1:0:2:3"[:place] + sign + "1:0:2:3"[place + 1:])
                self.check("1" + sign + "0", [2])
        self.check("1::0::2::3")
        self.check("1: 0: 2: 3")

    def test_a_list_as_python_writes_it(self):
        self.check("[1, 0, 2, 3]")
        self.check("1, 0, 2, 3")

    def test_numbers_of_many_figures(self):
        for figures in ("9" * 70, "9" * 90):
            self.check("0:0:0:" + figures)
            self.check(figures)
            self.check("1:" + figures, [])
            self.check("+" + figures + ":0:0:0")


if __name__ == "__main__":
    unittest.main()
