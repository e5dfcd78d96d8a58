"""Shares of work over the plots of a trial without blocks, and which are best of all."""

from trialground.errors import InvalidShares, Unfit
from trialground.linear import null_rows, solution
from trialground.ratios import NIL, ONE, fraction, is_above, is_row, minus, over, plus, power, row_product, row_sum
from trialground.ratios import row_times, times
from trialground.squares import split_table, sum_of_squares
from trialground.trials import check_trial


def are_shares(trial, value):
    """Tell whether a value, whatever it is, is shares of the trial."""
    check_trial(trial)
    check_unblocked(trial)
    return are_shares_of(trial, value)


def share_table(trial, shares):
    """The share table."""
    _check_all(trial, shares)
    return table_by(trial, shares)


def own_spreads(trial, shares):
    """The own spread of each plot; None for shares that are not full."""
    _check_all(trial, shares)
    return _own_in(trial, shares)


def is_best(trial, shares):
    """Tell whether shares are full and no own spread is above the number of unknowns."""
    _check_all(trial, shares)
    own = _own_in(trial, shares)
    return own is not None and not is_above(_greatest(own), fraction(_unknowns(trial), 1))


def bettered(trial, shares):
    """Shares with more work for the first plot with the greatest own spread, and by how much T's determinant grows.

    None for shares that are best of all.
    """
    own = _checked_own(trial, shares)
    most = _greatest(own)
    unknowns = _unknowns(trial)
    many = fraction(unknowns, 1)
    if not is_above(most, many):
        return None
    part = over(minus(most, many), times(many, minus(most, ONE)))
    rest = minus(ONE, part)
    moved = list(row_times(rest, shares))
    plot = own.index(most)
    moved[plot] = plus(moved[plot], part)
    return (tuple(moved), times(power(rest, unknowns - 1), plus(rest, times(part, most))))


def room(trial, shares):
    """The number times T's determinant that no shares exceed."""
    most = _greatest(_checked_own(trial, shares))
    unknowns = _unknowns(trial)
    return power(over(most, fraction(unknowns, 1)), unknowns)


def check_shares(trial, shares):
    """Raise InvalidShares for no shares of as many plots."""
    if not are_shares_of(trial, shares):
        raise InvalidShares(shares)


def check_unblocked(trial):
    """Raise Unfit for a trial with blocks."""
    if trial[2] != ():
        raise Unfit(trial[2])


def are_shares_of(trial, value):
    """Tell whether a value is shares of what is known to be a trial."""
    return is_row(value, len(trial[0])) and all(share[0] >= 0 for share in value) and row_sum(value) == ONE


def table_by(trial, shares):
    """The share table of what are known to be shares."""
    rows, spreads, _ = trial
    worths = [over(share, spread) for share, spread in zip(shares, spreads)]
    return sum_of_squares(len(rows[0]), list(zip(worths, rows)))


def determinant_by(trial, shares):
    """The determinant of the share table of what are known to be shares."""
    squares = split_table(table_by(trial, shares))[1]
    if len(squares) < _unknowns(trial):
        return NIL
    # Each square takes a letter out with 1 over a number on the diagonal: the product of these
    # numbers is the determinant.
    made = ONE
    for worth, _ in squares:
        made = over(made, worth)
    return made


def _check_all(trial, shares):
    """Raise what is wrong with a trial or its shares."""
    check_trial(trial)
    check_shares(trial, shares)
    check_unblocked(trial)


def _checked_own(trial, shares):
    """The own spreads, after a look at the arguments; Unfit for shares that are not full."""
    _check_all(trial, shares)
    own = _own_in(trial, shares)
    if own is None:
        raise Unfit(shares)
    return own


def _own_in(trial, shares):
    """The own spreads of what are known to be shares; None if they are not full."""
    table = table_by(trial, shares)
    if null_rows(table):
        return None
    return tuple([over(row_product(solution(table, row), row), spread) for row, spread in zip(trial[0], trial[1])])


def _greatest(ratios):
    """The greatest of some fractions."""
    most = ratios[0]
    for ratio in ratios:
        if is_above(ratio, most):
            most = ratio
    return most


def _unknowns(trial):
    """How many unknowns a trial has."""
    return len(trial[0][0])
