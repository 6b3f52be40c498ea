"""Amounts written as lines, and lines read to amounts."""

from peatrick.errors import NoAmount
from peatrick.parts import is_amount


def shown(parts):
    return ":".join([str(part) for part in parts])


def number_in(text):
    try:
        number = int(text)
    except ValueError:
        raise NoAmount("a part is no number") from None
    return number


def read(steps, line):
    parts = [number_in(text) for text in line.split(":")]
    if not is_amount(steps, parts):
        raise NoAmount("the numbers are no amount of the measure")
    # int takes more than a part may be written as: blanks, "_" and "+", noughts ahead, a nought with a "-".
    if shown(parts) != line:
        raise NoAmount("a number is not written as a part is")
    return parts
