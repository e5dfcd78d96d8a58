"""Lost plots: lots that spoil a question, and how many lost ones it outlasts."""

from itertools import combinations

from trialground.errors import InvalidNumber, NotTold
from trialground.linear import leading_columns, null_rows, solution
from trialground.lots import is_index
from trialground.ratios import NIL, row_product
from trialground.tellings import fair_sums
from trialground.trials import check_lot, check_question, check_trial, wide_question, wide_rows


def does_spoil(trial, question, lot):
    """Tell whether the plots out of a lot do not tell a question."""
    _check_question(trial, question)
    check_lot(trial, lot)
    _check_told(trial, question)
    return _telling_out_of(trial, question, lot) is None


def spoiling(trial, question):
    """The ascending tuple of the lots that spoil a question and have no other such lot within them."""
    _check_question(trial, question)
    _check_told(trial, question)
    return tuple(sorted(_least_lots(trial, question)))


def strength(trial, question):
    """The greatest number of plots whose loss a question outlasts, whichever they are."""
    _check_question(trial, question)
    _check_told(trial, question)
    # A question that no lot spoils outlasts the loss of all plots.
    return min([len(lot) for lot in _least_lots(trial, question)], default=len(trial[0]) + 1) - 1


def outlasting(trial, question, many):
    """Any fair tellings such that no lot of so many plots meets all of them; None."""
    _check_question(trial, question)
    if not is_index(many, len(trial[0]) + 1):
        raise InvalidNumber(many)
    _check_told(trial, question)
    tellings = []
    for lot in combinations(range(len(trial[0])), many):
        if not any([_is_out_of(lot, telling) for telling in tellings]):
            telling = _telling_out_of(trial, question, lot)
            if telling is None:
                return None
            tellings.append(telling)
    return tuple(tellings)


def is_met(tellings, many):
    """Tell whether some lot of so many plots meets all of one or more tellings."""
    for lot in combinations(range(len(tellings[0])), many):
        if not any([_is_out_of(lot, telling) for telling in tellings]):
            return True
    return False


def _check_question(trial, question):
    """Raise what is wrong with a trial or a question."""
    check_trial(trial)
    check_question(trial, question)


def _check_told(trial, question):
    """Raise NotTold for a question that no telling is fair for."""
    if _telling_out_of(trial, question, ()) is None:
        raise NotTold()


def _telling_out_of(trial, question, lot):
    """Any fair telling without weights on the plots of a lot; None."""
    kept = [plot for plot in range(len(trial[0])) if plot not in lot]
    sums = [[row[plot] for plot in kept] for row in fair_sums(trial)]
    weights = solution(sums, wide_question(trial, question))
    if weights is None:
        return None
    weight_of = dict(zip(kept, weights))
    return tuple([weight_of.get(plot, NIL) for plot in range(len(trial[0]))])


def _is_out_of(lot, telling):
    """Tell whether a telling has no weight on the plots of a lot."""
    return all([telling[plot] == NIL for plot in lot])


def _least_lots(trial, question):
    """The least spoiling lots of a told question, in any order."""
    rows = wide_rows(trial)
    # Columns made of others ahead of them change neither what plots can yield nor answers.
    columns = leading_columns(rows)
    if not columns:
        return []
    wide = wide_question(trial, question)
    asked = [wide[column] for column in columns]
    narrow = [[row[column] for column in columns] for row in rows]
    return _lots_by_worlds(narrow, asked, len(columns) - 1)


def _lots_by_worlds(rows, asked, many):
    """The least spoiling lots, where so many plots and one more can fix a world.

    The plots out of a least spoiling lot yield 0 in some world with an answer other than 0. It is
    the only one but for its multiples, or one plot more could be kept without telling the
    question: so just so many of these plots fix it, and the lot has all plots that yield
    something in it. Each lot that is found in this way is a least one: with one plot more that
    is kept no world is left but that of noughts.
    """
    found = []
    for plots in combinations(range(len(rows)), many):
        # The row of noughts asks for nothing; it stands for no plots at all.
        worlds = null_rows([[NIL] * len(asked)] + [rows[plot] for plot in plots])
        if len(worlds) == 1 and row_product(asked, worlds[0]) != NIL:
            lot = tuple([plot for plot, row in enumerate(rows) if row_product(row, worlds[0]) != NIL])
            if lot not in found:
                found.append(lot)
    return found
