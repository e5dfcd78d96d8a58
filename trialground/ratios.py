"""Fractions as pairs of whole numbers, and rows of them."""

from math import gcd, lcm

NIL = (0, 1)
ONE = (1, 1)


def is_whole(value):
    """Tell whether a value is a whole number, which True and False are not."""
    return isinstance(value, int) and not isinstance(value, bool)


def is_fraction(value):
    """Tell whether a value is a pair of whole numbers in lowest terms, the second one above 0."""
    if not isinstance(value, tuple) or len(value) != 2:
        return False
    above, below = value
    return is_whole(above) and is_whole(below) and below > 0 and gcd(above, below) == 1


def is_row(value, many):
    """Tell whether a value is a row of so many fractions."""
    return isinstance(value, tuple) and len(value) == many and all(is_fraction(part) for part in value)


def fraction(above, below):
    """The fraction of two whole numbers, the second one not 0."""
    shared = gcd(above, below)
    if below < 0:
        shared = -shared
    return (above // shared, below // shared)


def negative(ratio):
    """A fraction with the other sign."""
    return (-ratio[0], ratio[1])


def times(one, other):
    """The product of two fractions."""
    return fraction(one[0] * other[0], one[1] * other[1])


def over(one, other):
    """One fraction over another one that is not 0."""
    return fraction(one[0] * other[1], one[1] * other[0])


def plus(one, other):
    """The sum of two fractions."""
    return fraction(one[0] * other[1] + other[0] * one[1], one[1] * other[1])


def minus(one, other):
    """One fraction less the other."""
    return fraction(one[0] * other[1] - other[0] * one[1], one[1] * other[1])


def power(ratio, many):
    """The product of so many times the same fraction."""
    raised = ONE
    for _ in range(many):
        raised = times(raised, ratio)
    return raised


def size_of(ratio):
    """The absolute value of a fraction."""
    return (abs(ratio[0]), ratio[1])


def is_above(one, other):
    """Tell whether one fraction is above the other."""
    return one[0] * other[1] > other[0] * one[1]


def row_product(row, other):
    """The sum of the products of two rows, place by place."""
    above, below = 0, 1
    for (a, b), (c, d) in zip(row, other):
        # Denominators are often alike: their least multiple keeps the sum short.
        common = lcm(below, b * d)
        above = above * (common // below) + a * c * (common // (b * d))
        below = common
    return fraction(above, below)


def row_sum(row):
    """The sum of a row."""
    return row_product(row, (ONE,) * len(row))


def row_times(factor, row):
    """A row, each fraction times a factor."""
    return tuple([times(factor, part) for part in row])


def row_minus(row, other):
    """A row less another one, place by place."""
    return tuple([minus(mine, its) for mine, its in zip(row, other)])


def mark_row(many, marks):
    """A row of so many fractions: those that the dict of marks tells by index, otherwise noughts."""
    return tuple([marks.get(at, NIL) for at in range(many)])
