"""Trials put together, without their blocks, and with a plot more."""

from trialground.errors import InvalidRows, NotTold, Unfit
from trialground.ratios import NIL, ONE, over, plus, row_minus, row_product, times
from trialground.tables import block_heft, block_mean, row_in
from trialground.trials import GREATEST_BLOCK, MOST_PLOTS, check_pair, check_question, check_trial, count_levels
from trialground.trials import is_block, is_question_of, is_spread


def apart(one, other):
    """The plots of two trials, the blocks of the second one counted on behind those of the first one."""
    check_pair(one, other)
    return _joined(one, other, count_levels(one))


def together(one, other):
    """The plots of two trials, with the block numbers as they are."""
    check_pair(one, other)
    return _joined(one, other, 0)


def unblocked(trial):
    """A trial without its blocks."""
    check_trial(trial)
    rows, spreads, _ = trial
    return (rows, spreads, ())


def with_plot(trial, plot):
    """A trial with one plot more, behind the others."""
    check_trial(trial)
    _check_plot(trial, plot)
    many = len(trial[0]) + 1
    if many > MOST_PLOTS:
        raise Unfit(many)
    return trial_and(trial, plot)


def square_of(trial, plot):
    """The square that a plot more adds to the table; None in a block without plots."""
    check_trial(trial)
    _check_plot(trial, plot)
    return _added_square(trial, plot)


def fall(trial, question, plot):
    """By how much the least spread of a question falls with a plot more."""
    check_trial(trial)
    check_question(trial, question)
    _check_plot(trial, plot)
    if row_in(trial, question) is None:
        raise NotTold()
    square = _added_square(trial, plot)
    return NIL if square is None else _fall_by(trial, question, square)


def is_plot_for(trial, value):
    """Tell whether a value is a row, a spread and a block, or None, for one plot more."""
    if not isinstance(value, tuple) or len(value) != 3:
        return False
    row, spread, block = value
    if not is_question_of(trial, row) or not is_spread(spread):
        return False
    return block is None if trial[2] == () else is_block(block)


def trial_and(trial, plot):
    """What is known to be a trial with what is known to be one plot more, however many there are."""
    row, spread, block = plot
    rows, spreads, blocks = trial
    return (rows + (row,), spreads + (spread,), () if block is None else blocks + (block,))


def _joined(one, other, step):
    """The plots of two trials, the block numbers of the second one counted on by a step."""
    if (one[2] == ()) != (other[2] == ()):
        raise Unfit(other)
    many = len(one[0]) + len(other[0])
    if many > MOST_PLOTS:
        raise Unfit(many)
    blocks = one[2] + tuple([block + step for block in other[2]])
    greatest = max(blocks, default=0)
    if greatest > GREATEST_BLOCK:
        raise Unfit(greatest)
    return (one[0] + other[0], one[1] + other[1], blocks)


def _check_plot(trial, plot):
    """Raise InvalidRows for no plot more for the trial."""
    if not is_plot_for(trial, plot):
        raise InvalidRows(None)


def _added_square(trial, plot):
    """The square that what is known to be a plot more adds to the table; None."""
    row, spread, block = plot
    heft = over(ONE, spread)
    if block is None:
        return (heft, row)
    if block not in trial[2]:
        return None
    total = block_heft(trial, block)
    return (over(times(heft, total), plus(heft, total)), row_minus(row, block_mean(trial, block)))


def _fall_by(trial, question, square):
    """By how much the least spread of a told question falls with a square more in the table."""
    worth, line = square
    answer = row_in(trial, line)
    if answer is None:
        return NIL
    made = row_product(answer, question)
    return over(times(worth, times(made, made)), plus(ONE, times(worth, row_product(answer, line))))
