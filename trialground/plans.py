"""Plans of runs: how far they are balanced, which of them are pieces, and trials made of them."""

from itertools import combinations

from trialground.errors import InvalidNumber, InvalidRows, InvalidRuns
from trialground.factors import MOST_FACTORS, check_effect, effects_up_to, is_run, piece_of, products_of, sign_in
from trialground.lots import is_lot
from trialground.ratios import ONE, fraction, is_whole
from trialground.trials import MOST_PLOTS, MOST_UNKNOWNS

MOST_RUNS = 64


def sum_of(runs, effect):
    """The sum of the signs of an effect over the runs of a plan."""
    check_runs(runs)
    check_effect(len(runs[0]), effect)
    return _sum_in(runs, effect)


def is_balanced(runs, many):
    """Tell whether a plan is balanced up to a number of factors."""
    return unbalanced(runs, many) is None


def balance(runs):
    """The greatest number of factors up to which a plan is balanced, 0 for none."""
    check_runs(runs)
    effect = _effect_off(runs, MOST_FACTORS)
    return len(runs[0]) if effect is None else len(effect) - 1


def unbalanced(runs, many):
    """Any effect of 1 to so many factors whose signs do not come to 0 over a plan; None."""
    check_runs(runs)
    if not is_whole(many) or not 1 <= many <= MOST_FACTORS:
        raise InvalidNumber(many)
    return _effect_off(runs, many)


def words_of(runs):
    """Any words of which a plan is, in some order, the piece; None."""
    check_runs(runs)
    words = _words_said(runs)
    return words if sorted(runs) == list(piece_of(len(runs[0]), words)) else None


def missing(runs):
    """Two indexes of like runs, or three of runs whose product is none of a plan; None for a piece."""
    check_runs(runs)
    place = {}
    for index, run in enumerate(runs):
        if run in place:
            return (place[run], index)
        place[run] = index
    # If the products of the first run with any two others are all there, so are all others.
    for one, other in combinations(range(1, len(runs)), 2):
        if run_product((runs[0], runs[one], runs[other])) not in place:
            return (0, one, other)
    return None


def trial_of(runs, effects):
    """The trial with a plot for each run of a plan, its row the signs of effects in it."""
    if isinstance(runs, tuple) and len(runs) > MOST_PLOTS:
        raise InvalidRuns(None)
    check_runs(runs)
    _check_effects(len(runs[0]), effects)
    rows = tuple([tuple([fraction(sign_in(run, effect), 1) for effect in effects]) for run in runs])
    return (rows, (ONE,) * len(runs), ())


def check_runs(runs):
    """Raise InvalidRuns for no plan."""
    if not isinstance(runs, tuple) or not 1 <= len(runs) <= MOST_RUNS:
        raise InvalidRuns(None)
    for index, run in enumerate(runs):
        if not is_run(run) or len(run) != len(runs[0]):
            raise InvalidRuns(index)


def run_product(runs):
    """The run of the products of runs, factor by factor."""
    made = runs[0]
    for run in runs[1:]:
        made = tuple([mine * its for mine, its in zip(made, run)])
    return made


def _check_effects(factors, effects):
    """Raise InvalidRows for no 1 to 5 unlike effects of so many factors."""
    if not isinstance(effects, tuple) or not 1 <= len(effects) <= MOST_UNKNOWNS:
        raise InvalidRows(None)
    for index, effect in enumerate(effects):
        if not is_lot(effect, factors) or effect in effects[:index]:
            raise InvalidRows(index)


def _sum_in(runs, effect):
    """The sum of the signs of an effect over runs."""
    return sum([sign_in(run, effect) for run in runs])


def _effect_off(runs, many):
    """An effect of 1 to so many factors, of as few as can be, whose signs do not come to 0; None."""
    for effect in effects_up_to(len(runs[0]), many):
        if effect != () and _sum_in(runs, effect) != 0:
            return effect
    return None


def _words_said(runs):
    """Words, none a product of the others, of which all are products that have one sign in all runs."""
    words = ()
    for effect in effects_up_to(len(runs[0]), MOST_FACTORS):
        word = (effect, sign_in(runs[0], effect))
        if abs(_sum_in(runs, effect)) == len(runs) and word not in products_of(words):
            words = words + (word,)
    return words
