"""Tellings: weights of plots that make a question, or the shift that no plot shows."""

from trialground.errors import InvalidTelling
from trialground.linear import null_rows, solution
from trialground.ratios import NIL, is_row, row_product, times
from trialground.trials import answer_in, check_question, check_trial, is_world_of
from trialground.trials import wide_question, wide_rows, yields_in


def is_fair(trial, question, telling):
    """Tell whether a telling is fair for a question."""
    check_trial(trial)
    check_question(trial, question)
    check_telling(trial, telling)
    return is_fair_for(trial, question, telling)


def spread_of(trial, telling):
    """The spread of a telling."""
    check_trial(trial)
    check_telling(trial, telling)
    return spread_in(trial, telling)


def told_or_shift(trial, question):
    """("told", any fair telling for a question), or ("shift", any shift against it)."""
    check_trial(trial)
    check_question(trial, question)
    telling = solution(fair_sums(trial), wide_question(trial, question))
    if telling is not None:
        return ("told", telling)
    return ("shift", shift_without(trial, question, ()))


def is_shift(trial, question, value):
    """Tell whether a value, whatever it is, is a shift against a question."""
    check_trial(trial)
    check_question(trial, question)
    return is_world_of(trial, value) and _does_shift(trial, question, value)


def check_telling(trial, telling):
    """Raise InvalidTelling for no telling of the trial."""
    if not is_row(telling, len(trial[0])):
        raise InvalidTelling(telling)


def is_fair_for(trial, question, telling):
    """Tell whether what is known to be a telling is fair for a question."""
    made = tuple([row_product(column, telling) for column in fair_sums(trial)])
    return made == wide_question(trial, question)


def spread_in(trial, telling):
    """The spread of what is known to be a telling."""
    return row_product([times(weight, weight) for weight in telling], trial[1])


def shift_without(trial, question, lot):
    """Any world in which all plots out of a lot yield 0, but the question's answer is not 0; None."""
    wide = wide_question(trial, question)
    # The row of noughts asks for nothing; it stands for no plots at all.
    kept = [(NIL,) * len(wide)] + [row for plot, row in enumerate(wide_rows(trial)) if plot not in lot]
    for flat in null_rows(kept):
        if row_product(wide, flat) != NIL:
            return (flat[:len(question)], flat[len(question):])
    return None


def fair_sums(trial):
    """For each unknown, then for each level, the row of what each plot's weight adds to its sum."""
    wide = wide_rows(trial)
    return [tuple(column) for column in zip(*wide)]


def _does_shift(trial, question, world):
    """Tell whether a world changes no plot, but the question."""
    unchanged = all(worth == NIL for worth in yields_in(trial, world))
    return unchanged and answer_in(question, world) != NIL
