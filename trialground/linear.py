"""Linear equations with fractions, solved by whole numbers."""

from math import lcm

from trialground.ratios import fraction


def solution(rows, sides):
    """Any row whose product with each of the rows is its side, None if there is none."""
    width = len(rows[0])
    steps, pivots = _steps([[*row, side] for row, side in zip(rows, sides)], width)
    if any(row[width] != 0 for row in steps[len(pivots):]):
        return None
    scale = _last_lead(steps, pivots)
    found = _filled(steps, pivots, [0] * width + [-scale])
    return tuple([fraction(part, scale) for part in found[:width]])


def leading_columns(rows):
    """The columns that are no sums of multiples of those ahead of them; all others are."""
    return _steps(rows, len(rows[0]))[1]


def null_rows(rows):
    """Rows whose product with each of the rows is 0: all such are sums of their multiples."""
    width = len(rows[0])
    steps, pivots = _steps(rows, width)
    scale = _last_lead(steps, pivots)
    found = []
    for free in range(width):
        if free not in pivots:
            start = [0] * width
            start[free] = scale
            found.append(tuple([fraction(part, scale) for part in _filled(steps, pivots, start)]))
    return found


def _steps(rows, width):
    """Bring the first columns of rows into steps of whole numbers; the steps, and where they lead.

    Each leading column has noughts in the steps behind its own one; the rows behind the last
    step have noughts in all of the first columns.
    """
    steps = [_whole_multiple(row) for row in rows]
    pivots = []
    scale = 1
    for column in range(width):
        top = len(pivots)
        at = _first_not_nought(steps, top, column)
        if at is not None:
            steps[top], steps[at] = steps[at], steps[top]
            _clear_behind(steps, top, column, scale)
            scale = steps[top][column]
            pivots.append(column)
    return steps, pivots


def _whole_multiple(row):
    """The least multiple of a row by a number above 0 that has no denominators."""
    common = 1
    for _, below in row:
        common = lcm(common, below)
    return [above * (common // below) for above, below in row]


def _first_not_nought(steps, top, column):
    """The index of the first row from the top one on that is not 0 in a column; None."""
    for at in range(top, len(steps)):
        if steps[at][column] != 0:
            return at
    return None


def _clear_behind(steps, top, column, scale):
    """Clear a column in all rows behind the top one."""
    leader = steps[top]
    lead = leader[column]
    for at in range(top + 1, len(steps)):
        row = steps[at]
        factor = row[column]
        # Bareiss: the lead of the step before divides all of these without a rest,
        # so numbers stay as short as determinants of the equations are.
        steps[at] = [(lead * mine - factor * its) // scale for mine, its in zip(row, leader)]


def _last_lead(steps, pivots):
    """The number that leads the last step, 1 if there is no step."""
    if not pivots:
        return 1
    return steps[len(pivots) - 1][pivots[-1]]


def _filled(steps, pivots, start):
    """A row with the numbers of the start, other ones in leading columns: 0 with all steps.

    With numbers that the last lead divides, the others are whole ones, too (Cramer).
    """
    filled = list(start)
    for row, column in reversed(list(zip(steps, pivots))):
        rest = sum([mine * its for mine, its in zip(row, filled)])
        filled[column] = -rest // row[column]
    return filled
