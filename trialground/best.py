"""The best telling of a question, its loads and its spread."""

from trialground.errors import NotTold, Unfit
from trialground.linear import solution
from trialground.ratios import NIL, minus, negative, times
from trialground.tellings import check_telling, fair_sums, is_fair_for, spread_in
from trialground.trials import answer_in, check_question, check_trial, count_levels, is_world_of
from trialground.trials import wide_question, wide_rows, yields_in


def best_telling(trial, question):
    """The best telling for a question."""
    return checked_best(trial, question)[0]


def load_of(trial, question):
    """Any load of the best telling for a question."""
    return checked_best(trial, question)[1]


def is_load(trial, telling, value):
    """Tell whether a value, whatever it is, is a load of a telling."""
    check_trial(trial)
    check_telling(trial, telling)
    return is_world_of(trial, value) and yields_in(trial, value) == _loaded(trial, telling)


def least_spread(trial, question):
    """The spread of the best telling for a question."""
    return answer_in(question, checked_best(trial, question)[1])


def excess(trial, question, telling):
    """The spread of a fair telling less the least one."""
    check_trial(trial)
    check_question(trial, question)
    check_telling(trial, telling)
    if not is_fair_for(trial, question, telling):
        raise Unfit(telling)
    load = best_with_load(trial, question)[1]
    return minus(spread_in(trial, telling), answer_in(question, load))


def checked_best(trial, question):
    """The best telling for a question and a load of it, after a look at both."""
    check_trial(trial)
    check_question(trial, question)
    found = best_with_load(trial, question)
    if found is None:
        raise NotTold()
    return found


def best_with_load(trial, question):
    """The best telling for a question and a load of it; None if it is not told."""
    plots, unknowns = len(trial[0]), len(question)
    # A fair telling with a load is just what solves both kinds of equations at once, and one
    # is there whenever the question is told: there is no need to look for a telling first.
    rows = _load_equations(trial) + _fair_equations(trial)
    found = solution(rows, (NIL,) * plots + wide_question(trial, question))
    if found is None:
        return None
    world = found[plots:]
    return (found[:plots], (world[:unknowns], world[unknowns:]))


def has_load(trial, telling):
    """Tell whether what is known to be a telling has a load."""
    return solution(wide_rows(trial), _loaded(trial, telling)) is not None


def _loaded(trial, telling):
    """What the plots yield in a load of a telling: weight times spread."""
    return tuple([times(weight, spread) for weight, spread in zip(telling, trial[1])])


def _load_equations(trial):
    """For each plot: its weight times its spread, less what it yields, is 0."""
    plots = len(trial[0])
    equations = []
    for plot, row in enumerate(wide_rows(trial)):
        weighed = [NIL] * plots
        weighed[plot] = trial[1][plot]
        equations.append(weighed + [negative(part) for part in row])
    return equations


def _fair_equations(trial):
    """For each unknown and level: the sum that the weights make there, whatever the world."""
    worldless = (NIL,) * (len(trial[0][0]) + count_levels(trial))
    return [sums + worldless for sums in fair_sums(trial)]
