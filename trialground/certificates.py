"""Claims that are so, of two that exclude one another, with papers for the checker."""

from trialground.asked import best_shares
from trialground.best import checked_best
from trialground.deeds import made_by
from trialground.errors import InvalidText, Unfit
from trialground.factors import CONTRARY, alike, lot_for, odd_of, piece_of, sign_in
from trialground.kinds import parts_of, way_between
from trialground.losses import outlasting, spoiling
from trialground.plans import missing, unbalanced, words_of
from trialground.ratios import row_product, times
from trialground.shares import bettered
from trialground.sheets import sheet_or_wrong
from trialground.squares import squares_or_below
from trialground.tellings import shift_without, told_or_shift
from trialground.trials import answer_in, check_trial
from trialground.two import compared


def certify_told(trial, question):
    """The claim that a question is told, or that it is not, and a paper."""
    kind, paper = told_or_shift(trial, question)
    return (("told" if kind == "told" else "not told", trial, question), paper)


def certify_best(trial, question):
    """The claim that a telling is the best one, and a paper."""
    telling, load = checked_best(trial, question)
    return (("best telling", trial, question, telling), load)


def certify_spread(trial, question):
    """The claim that a number is the least spread, and a paper."""
    telling, load = checked_best(trial, question)
    return (("least spread", trial, question, answer_in(question, load)), (telling, load))


def certify_table(table):
    """The claim that a table is nowhere below 0, or that it is somewhere, and a paper."""
    kind, paper = squares_or_below(table)
    return (("nowhere below" if kind == "squares" else "below somewhere", table), paper)


def certify_good(one, other):
    """The claim that a trial is at least as good as another one, or that it is not, and a paper."""
    found = compared(one, other)
    return (("at least as good" if found[0] == "as good" else "not as good", one, other), found[1])


def certify_way(trial, kind, other):
    """The claim that two kinds hang together, or that they do not, and a paper."""
    way = way_between(trial, kind, other)
    if way is not None:
        return (("hang together", trial, kind, other), way)
    part = [lot for lot in parts_of(trial) if kind in lot][0]
    return (("part", trial, kind, other), part)


def certify_shares(trial, shares):
    """The claim that shares are best of all, or that they are not, and a paper."""
    found = bettered(trial, shares)
    if found is None:
        return (("best of all", trial, shares), ())
    return (("not best of all", trial, shares), found[0])


def certify_asked(trial, question):
    """The claim that shares are best for a question, and a paper."""
    least, shares, barrier = best_shares(trial, question)
    # The barrier makes 1 or - 1 of each row with a share: the sign of its weight.
    weights = [times(times(least, share), row_product(barrier, row)) for row, share in zip(trial[0], shares)]
    return (("best shares", trial, question, shares), (tuple(weights), barrier))


def certify_losses(trial, question, many):
    """The claim that a question outlasts the loss of so many plots, or that it does not, and a paper."""
    tellings = outlasting(trial, question, many)
    if tellings is not None:
        return (("outlasts", trial, question, many), tellings)
    lot = min(spoiling(trial, question), key=len)
    return (("does not outlast", trial, question, many), (lot, shift_without(trial, question, lot)))


def certify_effects(factors, words, effect, other):
    """The claim that two effects are alike in a piece, that they are apart, or that it is empty, and a paper."""
    try:
        sign = alike(factors, words, effect, other)
    except Unfit:
        return (("empty piece", factors, words), lot_for(words, CONTRARY))
    odd = odd_of(effect, other)
    if sign != 0:
        return (("alike", factors, words, effect, other, sign), lot_for(words, (odd, sign)))
    runs = piece_of(factors, words)
    two = [[run for run in runs if sign_in(run, odd) == each][0] for each in (-1, 1)]
    return (("apart", factors, words, effect, other), tuple(two))


def certify_piece(runs):
    """The claim that a plan is a piece, or that it is none, and a paper."""
    words = words_of(runs)
    if words is not None:
        return (("piece", runs), words)
    return (("no piece", runs), missing(runs))


def certify_balance(runs, many):
    """The claim that a plan is balanced up to a number of factors, or that it is not, and a paper."""
    effect = unbalanced(runs, many)
    if effect is None:
        return (("balanced", runs, many), ())
    return (("not balanced", runs, many), effect)


def certify_change(trial, value):
    """The claim that a value is a deed that fits and what it makes, or that it is none, and a paper."""
    check_trial(trial)
    made = made_by(trial, value)
    if made is None:
        return (("no change", trial, value), ())
    return (("change", trial, value, made), ())


def certify_read(text):
    """The claim that a text is read as a sheet, or at which row it is wrong, and a paper."""
    if not isinstance(text, str):
        raise InvalidText(None)
    sheet, wrong = sheet_or_wrong(text)
    if sheet is None:
        return (("not read", text, wrong), ())
    return (("read", text, sheet), ())
