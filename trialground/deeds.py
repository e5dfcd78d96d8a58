"""Deeds on trials: which fit, the trials behind them, and which questions they leave as they stand."""

from trialground.best import best_with_load, has_load
from trialground.errors import InvalidDeed
from trialground.lots import is_index
from trialground.ratios import NIL, is_row, is_whole, row_product
from trialground.together import is_plot_for, trial_and
from trialground.trials import MOST_PLOTS, MOST_UNKNOWNS, answer_in, check_question, check_trial, is_block, is_spread


def fits(trial, value):
    """Tell whether a value, whatever it is, is a deed that fits."""
    check_trial(trial)
    return made_by(trial, value) is not None


def behind(trial, deed):
    """The trial that a deed makes."""
    check_trial(trial)
    return _checked_made(trial, deed)


def standing(trial, question):
    """(), or the least spread of a question and its best telling."""
    check_trial(trial)
    check_question(trial, question)
    return standing_in(trial, question)


def leaves(trial, deed, question):
    """Tell whether a deed leaves a question."""
    check_trial(trial)
    _checked_made(trial, deed)
    check_question(trial, question)
    return is_left(trial, deed, standing_in(trial, question))


def made_by(trial, value):
    """The trial that a deed makes; None for what is no deed that fits, whatever it is."""
    if not isinstance(value, tuple) or len(value) == 0 or not isinstance(value[0], str):
        return None
    make = MAKERS.get((value[0], len(value)))
    return None if make is None else make(trial, value[1:])


def standing_in(trial, question):
    """The standing of what is known to be a question."""
    found = best_with_load(trial, question)
    if found is None:
        return ()
    telling, load = found
    return (answer_in(question, load), telling)


def is_left(trial, deed, stands):
    """Tell whether a deed that fits leaves a question with this standing."""
    kind = deed[0]
    if kind == "order":
        return True
    if kind == "block":
        return trial[2][deed[1]] == deed[2]
    if kind == "put":
        # In the best telling the new plot has no weight: it has to yield 0 in a load, as all such plots do.
        return stands != () and has_load(trial_and(trial, deed[1:]), stands[1] + (NIL,))
    if stands == ():
        return True
    if kind == "unknown":
        return row_product(stands[1], deed[1]) == NIL
    return stands[1][deed[1]] == NIL or (kind == "weigh" and trial[1][deed[1]] == deed[2])


def question_along(deed, question):
    """A question led along with a deed."""
    return question + (NIL,) if deed[0] == "unknown" else question


def standing_along(deed, stands):
    """The standing of a question that a deed leaves, led along with it."""
    if stands == ():
        return ()
    least, telling = stands
    if deed[0] == "put":
        return (least, telling + (NIL,))
    if deed[0] == "strike":
        return (least, _without(telling, deed[1]))
    if deed[0] == "order":
        return (least, _ordered(telling, deed[1]))
    return stands


def _checked_made(trial, deed):
    """The trial that a deed makes; InvalidDeed for none that fits."""
    made = made_by(trial, deed)
    if made is None:
        raise InvalidDeed(deed)
    return made


def _put(trial, parts):
    """The trial with one plot more; None."""
    if not is_plot_for(trial, parts) or len(trial[0]) == MOST_PLOTS:
        return None
    return trial_and(trial, parts)


def _strike(trial, parts):
    """The trial with one plot less; None."""
    plots, plot = len(trial[0]), parts[0]
    if not is_index(plot, plots) or plots == 1:
        return None
    return tuple([_without(part, plot) for part in trial])


def _weigh(trial, parts):
    """The trial with another spread of one plot; None."""
    rows, spreads, blocks = trial
    plot, spread = parts
    if not is_index(plot, len(rows)) or not is_spread(spread):
        return None
    return (rows, _with_at(spreads, plot, spread), blocks)


def _block(trial, parts):
    """The trial with one plot in another block; None."""
    rows, spreads, blocks = trial
    plot, block = parts
    if not is_index(plot, len(blocks)) or not is_block(block):
        return None
    return (rows, spreads, _with_at(blocks, plot, block))


def _order(trial, parts):
    """The trial with its plots in another order; None."""
    order = parts[0]
    if not isinstance(order, tuple) or not all(is_whole(plot) for plot in order):
        return None
    if sorted(order) != list(range(len(trial[0]))):
        return None
    return tuple([_ordered(part, order) for part in trial])


def _unknown(trial, parts):
    """The trial with one unknown more; None."""
    rows, spreads, blocks = trial
    column = parts[0]
    if not is_row(column, len(rows)) or len(rows[0]) == MOST_UNKNOWNS:
        return None
    return (tuple([row + (number,) for row, number in zip(rows, column)]), spreads, blocks)


def _without(things, at):
    """A tuple without what stands at an index."""
    return things[:at] + things[at + 1:]


def _with_at(things, at, thing):
    """A tuple with another thing at an index."""
    return things[:at] + (thing,) + things[at + 1:]


def _ordered(things, order):
    """What stands in a tuple, in another order; () for ()."""
    return tuple([things[at] for at in order]) if things else ()


# Which function makes the trial of a deed, by its first word and its length.
MAKERS = {
    ("put", 4): _put,
    ("strike", 2): _strike,
    ("weigh", 3): _weigh,
    ("block", 3): _block,
    ("order", 2): _order,
    ("unknown", 2): _unknown,
}
