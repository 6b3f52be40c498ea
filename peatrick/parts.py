"""Amounts of a measure and their values.

The steps of a measure stand with the least unit first, the parts of an amount with the greatest unit first.
"""


def is_amount(steps, parts):
    if len(parts) != len(steps) + 1:
        return False
    # The greatest unit has no step above it: the walk ends ahead of it, and its part is free.
    for part, step in zip(reversed(parts), steps):
        if part < 0 or part >= step:
            return False
    return True


def value_of(steps, parts):
    value = parts[0]
    for step, part in zip(reversed(steps), parts[1:]):
        value = value * step + part
    return value


def amount_of(steps, value):
    left = value
    least_first = []
    for step in steps:
        # Both operators round downwards, so a value below nought leaves no part below nought but the first.
        least_first.append(left % step)
        left = left // step
    least_first.append(left)
    return list(reversed(least_first))
