"""Linear equations with fractions, solved by whole numbers."""

from math import lcm

from trialground.ratios import NIL, ONE, fraction


def solution(rows, sides):
    """Any row whose product with each of the rows is its side, None if there is none."""
    width = len(rows[0])
    swept, pivots, scale = _swept([[*row, side] for row, side in zip(rows, sides)], width)
    if any(row[width] != 0 for row in swept[len(pivots):]):
        return None
    found = [NIL] * width
    for row, column in zip(swept, pivots):
        found[column] = fraction(row[width], scale)
    return tuple(found)


def null_rows(rows):
    """Rows whose product with each of the rows is 0: sums of their multiples are all such."""
    width = len(rows[0])
    swept, pivots, scale = _swept(rows, width)
    found = []
    for free in range(width):
        if free not in pivots:
            null = [NIL] * width
            null[free] = ONE
            for row, column in zip(swept, pivots):
                null[column] = fraction(-row[free], scale)
            found.append(tuple(null))
    return found


def _swept(rows, width):
    """Sweep the first columns: the rows, the columns that lead one each, and the number that leads.

    Each leading column is left with this number in its row alone, the rows behind the leading
    ones with noughts in all swept columns.
    """
    swept = [_whole_multiple(row) for row in rows]
    pivots = []
    scale = 1
    for column in range(width):
        top = len(pivots)
        at = _first_not_nought(swept, top, column)
        if at is not None:
            swept[top], swept[at] = swept[at], swept[top]
            _sweep(swept, top, column, scale)
            scale = swept[top][column]
            pivots.append(column)
    return swept, pivots, scale


def _whole_multiple(row):
    """The least multiple of a row by a number above 0 that has no denominators."""
    common = 1
    for _, below in row:
        common = lcm(common, below)
    return [above * (common // below) for above, below in row]


def _first_not_nought(rows, top, column):
    """The index of the first row from the top one on that is not 0 in a column; None."""
    for at in range(top, len(rows)):
        if rows[at][column] != 0:
            return at
    return None


def _sweep(rows, top, column, scale):
    """Clear a column in all rows but the top one."""
    leader = rows[top]
    lead = leader[column]
    for at in range(len(rows)):
        if at != top:
            row = rows[at]
            factor = row[column]
            # Bareiss: the lead of the step before divides all of these without a rest,
            # so numbers stay as short as determinants of the equations are.
            rows[at] = [(lead * mine - factor * its) // scale for mine, its in zip(row, leader)]
