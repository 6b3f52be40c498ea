"""Amounts shared out."""

from peatrick.errors import NoShare
from peatrick.parts import amount_of, value_of


def shared(steps, parts, many):
    if many < 1:
        raise NoShare("the number of shares is below one")
    value = value_of(steps, parts)
    # Both operators round downwards, so the rest of a value below nought is not below nought.
    return (amount_of(steps, value // many), value % many)
