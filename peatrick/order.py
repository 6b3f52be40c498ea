"""Amounts of one measure in the order of their values.

All parts behind one are together worth less than one of its unit. So the first part in which two amounts differ
settles which has the lesser value, and that is how lists compare; the measure itself is not needed.
"""


def ahead(one, other):
    return one < other


def in_order(amounts):
    return sorted(amounts)
