"""FRACTIONS: tuples (top, bottom) in lowest terms."""

from benchdays.plain import is_number, is_number_from, is_tuple_of


def common_divisor(one, other):
    """The greatest common divisor of two numbers, the second one above 0."""
    one = abs(one)
    while other != 0:
        one, other = other, one % other
    return one


def is_fraction(thing):
    """Whether any thing is a FRACTION."""
    if not is_tuple_of(2, thing):
        return False
    top, bottom = thing
    if not is_number(top) or not is_number_from(1, bottom):
        return False
    return common_divisor(top, bottom) == 1


def fraction(top, bottom):
    """The FRACTION that top over bottom is; bottom isn't 0."""
    if bottom < 0:
        top, bottom = -top, -bottom
    shared = common_divisor(top, bottom)
    return (top // shared, bottom // shared)


def plus(one, other):
    """The sum of two FRACTIONS."""
    return fraction(one[0] * other[1] + other[0] * one[1], one[1] * other[1])


def minus(one, other):
    """The one FRACTION less the other."""
    return fraction(one[0] * other[1] - other[0] * one[1], one[1] * other[1])


def times(one, other):
    """The product of two FRACTIONS."""
    return fraction(one[0] * other[0], one[1] * other[1])


def less(one, other):
    """Whether the one FRACTION is less than the other."""
    return one[0] * other[1] < other[0] * one[1]


def falling(ratios):
    """The places of some FRACTIONS, that of the greatest first, those of like ones as they stood."""
    row = []
    for k, ratio in enumerate(ratios):
        # The places ahead in the row are just those whose FRACTIONS are no less.
        row.insert(len([j for j in row if not less(ratios[j], ratio)]), k)
    return row
