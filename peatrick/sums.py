"""Sums, differences, totals and multiples of amounts."""

from peatrick.parts import amount_of, value_of


def plus(steps, one, other):
    return amount_of(steps, value_of(steps, one) + value_of(steps, other))


def minus(steps, one, other):
    return amount_of(steps, value_of(steps, one) - value_of(steps, other))


def total(steps, amounts):
    return amount_of(steps, sum([value_of(steps, parts) for parts in amounts]))


def times(steps, parts, many):
    return amount_of(steps, value_of(steps, parts) * many)
