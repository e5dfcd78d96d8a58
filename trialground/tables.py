"""The table of a trial, and what it tells of questions."""

from trialground.linear import solution
from trialground.ratios import NIL, ONE, over, plus, row_minus, row_product, row_sum, row_times
from trialground.squares import sum_of_squares
from trialground.trials import check_question, check_trial


def table_of(trial):
    """The table of a trial."""
    check_trial(trial)
    return table_in(trial)


def table_row(trial, question):
    """Any row that the table leads to a question; None for one that is not told."""
    check_trial(trial)
    check_question(trial, question)
    return row_in(trial, question)


def spread_by_table(trial, question):
    """The least spread of a question; None for one that is not told."""
    check_trial(trial)
    check_question(trial, question)
    return least_in(trial, question)


def table_in(trial):
    """The table of what is known to be a trial."""
    # How rows lie around the mean of their block is all that is left of them beside its level.
    return sum_of_squares(len(trial[0][0]), list(zip(hefts_of(trial[1]), _centred_rows(trial))))


def row_in(trial, question):
    """Any row that the table leads to what is known to be a question; None."""
    return solution(table_in(trial), question)


def least_in(trial, question):
    """The least spread of what is known to be a question; None."""
    row = row_in(trial, question)
    return None if row is None else row_product(row, question)


def hefts_of(spreads):
    """1 over each of the spreads."""
    return tuple([over(ONE, spread) for spread in spreads])


def block_heft(trial, block):
    """The sum of the hefts of a block's plots: 0 for one without plots."""
    return row_sum([heft for heft, its in zip(hefts_of(trial[1]), trial[2]) if its == block])


def block_mean(trial, block):
    """The mean, by hefts, of the rows of a block with plots."""
    rows, spreads, blocks = trial
    mean = (NIL,) * len(rows[0])
    for row, heft, its in zip(rows, hefts_of(spreads), blocks):
        if its == block:
            mean = tuple([plus(part, more) for part, more in zip(mean, row_times(heft, row))])
    return row_times(over(ONE, block_heft(trial, block)), mean)


def _centred_rows(trial):
    """The rows less the means of their blocks; as they are where there are no blocks."""
    rows, _, blocks = trial
    if not blocks:
        return rows
    means = {block: block_mean(trial, block) for block in sorted(set(blocks))}
    return tuple([row_minus(row, means[block]) for row, block in zip(rows, blocks)])
