"""Best shares of work for one question, and barriers: rows that show that no others are better."""

from trialground.errors import InvalidQuestion, NotTold, Unfit
from trialground.linear import leading_columns, solution
from trialground.ratios import NIL, ONE, is_above, is_row, negative, over, row_product, row_sum, row_times, size_of
from trialground.shares import check_shares, check_unblocked, table_by
from trialground.trials import check_question, check_trial


def best_shares(trial, question):
    """(NUMBER, SHARES, BARRIER): the least size of a telling, any best shares, any barrier of this height."""
    _check_question(trial, question)
    _check_told(trial, question)
    lines, barrier = _best_lines(trial[0], question)
    weights = dict(zip(lines, _weights_for(list(lines.values()), question)))
    least = row_sum(list(weights.values()))
    shares = [over(weights.get(plot, NIL), least) for plot in range(len(trial[0]))]
    return (least, tuple(shares), barrier)


def spread_with(trial, question, shares):
    """The least spread by shares; None if the plots with shares do not tell the question."""
    _check_question(trial, question)
    check_shares(trial, shares)
    _check_told(trial, question)
    row = solution(table_by(trial, shares), question)
    return None if row is None else row_product(row, question)


def height(trial, question, row):
    """The height of a barrier; None for what is none, whatever it is."""
    _check_question(trial, question)
    _check_told(trial, question)
    if not is_row(row, len(question)) or _first_beyond(trial[0], row) is not None:
        return None
    return row_product(row, question)


def _check_question(trial, question):
    """Raise what is wrong with a trial or a question, which may not be of noughts alone."""
    check_trial(trial)
    check_question(trial, question)
    if question == (NIL,) * len(question):
        raise InvalidQuestion(question)


def _check_told(trial, question):
    """Raise Unfit for blocks or for spreads other than 1, then NotTold."""
    check_unblocked(trial)
    if trial[1] != (ONE,) * len(trial[1]):
        raise Unfit(trial[1])
    if _weights_for(trial[0], question) is None:
        raise NotTold()


def _weights_for(lines, question):
    """Any weights for rows with which they come to a question; None."""
    return solution([list(column) for column in zip(*lines)], question)


def _best_lines(rows, question):
    """Rows by their plots, each as it is or with the other sign, and a barrier.

    No one of them is made of the others, all rows are made of them, their weights for the
    question are from 0 on, and the barrier makes 1 of each: so its height is their size.
    """
    lines = _first_lines(rows, question)
    barrier = _barrier_of(lines)
    plot = _first_beyond(rows, barrier)
    # The simplex way: each row beyond the barrier comes in for one of them. To take the first
    # plot wherever there is a choice never leads around in a circle (Bland 1977).
    while plot is not None:
        lines = _exchanged(lines, question, plot, _towards(rows[plot], row_product(barrier, rows[plot])))
        barrier = _barrier_of(lines)
        plot = _first_beyond(rows, barrier)
    return lines, barrier


def _first_lines(rows, question):
    """Such rows as _best_lines tells, with weights from 0 on, whatever a barrier makes of the others."""
    plots = leading_columns([list(column) for column in zip(*rows)])
    weights = _weights_for([rows[plot] for plot in plots], question)
    return {plot: _towards(rows[plot], weight) for plot, weight in zip(plots, weights)}


def _towards(row, worth):
    """The row, with the other sign for a number below 0."""
    return row_times(negative(ONE), row) if worth[0] < 0 else row


def _barrier_of(lines):
    """Any row that makes 1 of each of the lines."""
    return solution(list(lines.values()), (ONE,) * len(lines))


def _first_beyond(rows, barrier):
    """The first plot of whose row a barrier makes more than 1, or less than - 1; None."""
    for plot, row in enumerate(rows):
        if is_above(size_of(row_product(barrier, row)), ONE):
            return plot
    return None


def _exchanged(lines, question, plot, line):
    """The lines with one more, in the place of the first one whose weight comes to 0 as the new weight grows."""
    plots = sorted(list(lines))
    told = [lines[each] for each in plots]
    least, leaving = None, None
    for each, weight, part in zip(plots, _weights_for(told, question), _weights_for(told, line)):
        if part[0] > 0 and (least is None or is_above(least, over(weight, part))):
            least, leaving = over(weight, part), each
    kept = {each: lines[each] for each in plots if each != leaving}
    kept[plot] = line
    return kept
