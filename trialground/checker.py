"""A small checker: it takes claims with papers that show them, whoever wrote them."""

from trialground.asked import height
from trialground.best import is_load
from trialground.deeds import behind, fits
from trialground.errors import TrialError
from trialground.factors import CONTRARY, agrees, check_effect, check_some_run, check_words, is_run, is_sign, odd_of
from trialground.factors import piece_of, product_of, sign_in
from trialground.kinds import check_kind, check_kinds, is_even_handed, neighbours
from trialground.losses import is_met
from trialground.lots import is_index, is_lot
from trialground.plans import check_runs, is_balanced, run_product, sum_of
from trialground.ratios import NIL, ONE, is_above, is_fraction, is_whole, over, row_sum, row_times, size_of
from trialground.shares import are_shares, determinant_by, is_best, own_spreads, room
from trialground.sheets import is_sheet, read_sheet, sheet_or_wrong
from trialground.squares import check_table, sum_at, table_minus, table_of_squares
from trialground.tables import table_in
from trialground.tellings import is_fair, is_shift, spread_of, told_or_shift
from trialground.trials import answer, check_pair, is_trial, yields


def accepts(claim, paper):
    """Tell whether a value is a claim and another one is a paper for it, whatever both are."""
    if not isinstance(claim, tuple) or len(claim) == 0 or not isinstance(claim[0], str):
        return False
    check = CHECKS.get((claim[0], len(claim)))
    if check is None:
        return False
    try:
        return check(claim[1:], paper)
    except TrialError:
        # A part of the claim, or of the paper, is not of the told form.
        return False


def _is_empty(value):
    """Tell whether a value is ()."""
    return isinstance(value, tuple) and len(value) == 0


def _is_pair(value):
    """Tell whether a value is a tuple of two."""
    return isinstance(value, tuple) and len(value) == 2


def _told(parts, paper):
    """Paper: a fair telling."""
    trial, question = parts
    return is_fair(trial, question, paper)


def _not_told(parts, paper):
    """Paper: a shift."""
    trial, question = parts
    return is_shift(trial, question, paper)


def _best_telling(parts, paper):
    """Paper: a load."""
    trial, question, telling = parts
    return is_fair(trial, question, telling) and is_load(trial, telling, paper)


def _least_spread(parts, paper):
    """Paper: the best telling and a load of it."""
    trial, question, number = parts
    if not is_fraction(number) or not _is_pair(paper):
        return False
    telling, load = paper
    return _best_telling((trial, question, telling), load) and spread_of(trial, telling) == number


def _nowhere_below(parts, paper):
    """Paper: squares of which the table is the sum."""
    table = parts[0]
    check_table(table)
    return table_of_squares(len(table), paper) == table


def _below_somewhere(parts, paper):
    """Paper: a row for which the sum is below 0."""
    return sum_at(parts[0], paper)[0] < 0


def _difference(parts):
    """The table of a trial less that of another one of as many unknowns."""
    one, other = parts
    check_pair(one, other)
    return table_minus(table_in(one), table_in(other))


def _at_least_as_good(parts, paper):
    """Paper: squares of which the difference of the tables is the sum."""
    return _nowhere_below((_difference(parts),), paper)


def _not_as_good(parts, paper):
    """Paper: a row for which the difference's sum is below 0."""
    return _below_somewhere((_difference(parts),), paper)


def _check_kinds_of(parts):
    """Raise what is wrong with a trial of kinds or with two kinds."""
    trial, kind, other = parts
    check_kinds(trial)
    check_kind(trial, kind)
    check_kind(trial, other)


def _hang_together(parts, paper):
    """Paper: a way."""
    _check_kinds_of(parts)
    trial, kind, other = parts
    if not isinstance(paper, tuple) or len(paper) == 0:
        return False
    if not all(is_index(each, len(trial[0][0])) for each in paper) or len(set(paper)) < len(paper):
        return False
    steps = all([near in neighbours(trial, each) for each, near in zip(paper, paper[1:])])
    return steps and paper[0] == kind and paper[-1] == other


def _part(parts, paper):
    """Paper: a lot of kinds with the one and without the other, in blocks of their own."""
    _check_kinds_of(parts)
    trial, kind, other = parts
    if not is_lot(paper, len(trial[0][0])) or kind not in paper or other in paper:
        return False
    return all([near in paper for each in paper for near in neighbours(trial, each)])


def _even_handed(parts, paper):
    """Paper: ()."""
    return is_even_handed(parts[0]) and _is_empty(paper)


def _best_of_all(parts, paper):
    """Paper: ()."""
    trial, shares = parts
    return is_best(trial, shares) and _is_empty(paper)


def _not_best_of_all(parts, paper):
    """Paper: full shares with a greater determinant."""
    trial, shares = parts
    if own_spreads(trial, shares) is None or not are_shares(trial, paper):
        return False
    # Shares whose determinant is above that of full ones, so above 0, are full, too.
    return is_above(determinant_by(trial, paper), determinant_by(trial, shares))


def _within(parts, paper):
    """Paper: ()."""
    trial, shares, number = parts
    return is_fraction(number) and not is_above(room(trial, shares), number) and _is_empty(paper)


def _best_shares(parts, paper):
    """Paper: a fair telling to which the shares belong, and a barrier as high as its size."""
    trial, question, shares = parts
    if not are_shares(trial, shares) or not _is_pair(paper):
        return False
    telling, barrier = paper
    if not is_fair(trial, question, telling):
        return False
    sizes = tuple([size_of(weight) for weight in telling])
    top = row_sum(sizes)
    return height(trial, question, barrier) == top and row_times(over(ONE, top), sizes) == shares


def _is_told(trial, question):
    """Tell whether a question is told."""
    return told_or_shift(trial, question)[0] == "told"


def _outlasts(parts, paper):
    """Paper: fair tellings such that no lot of so many plots meets all of them."""
    trial, question, many = parts
    if not _is_told(trial, question) or not is_index(many, len(trial[0]) + 1):
        return False
    if not isinstance(paper, tuple) or len(paper) == 0:
        return False
    return all([is_fair(trial, question, telling) for telling in paper]) and not is_met(paper, many)


def _does_not_outlast(parts, paper):
    """Paper: a lot of up to so many plots, and a world in which all others yield 0, but the answer is not 0."""
    trial, question, many = parts
    if not _is_told(trial, question) or not is_index(many, len(trial[0]) + 1) or not _is_pair(paper):
        return False
    lot, world = paper
    if not is_lot(lot, len(trial[0])) or not 1 <= len(lot) <= many:
        return False
    others = [worth for plot, worth in enumerate(yields(trial, world)) if plot not in lot]
    return all([worth == NIL for worth in others]) and answer(trial, question, world) != NIL


def _check_effects_of(factors, words, effect, other):
    """Raise what is wrong with factors, words and two effects."""
    check_words(factors, words)
    check_effect(factors, effect)
    check_effect(factors, other)


def _is_product(words, lot, wanted):
    """Tell whether a value is an ascending tuple of the indexes of words with a product."""
    return is_lot(lot, len(words)) and product_of([words[at] for at in lot]) == wanted


def _alike(parts, paper):
    """Paper: the indexes of words whose product is the odd lot with the sign."""
    factors, words, effect, other, sign = parts
    _check_effects_of(factors, words, effect, other)
    check_some_run(words)
    return is_sign(sign) and _is_product(words, paper, (odd_of(effect, other), sign))


def _apart(parts, paper):
    """Paper: two runs of the piece in which the products of both signs are unlike."""
    factors, words, effect, other = parts
    _check_effects_of(factors, words, effect, other)
    if not _is_pair(paper) or not all(is_run(run) and len(run) == factors and agrees(run, words) for run in paper):
        return False
    one, more = [sign_in(run, effect) * sign_in(run, other) for run in paper]
    return one != more


def _empty_piece(parts, paper):
    """Paper: the indexes of words whose product is the contrary of nothing said."""
    factors, words = parts
    check_words(factors, words)
    return _is_product(words, paper, CONTRARY)


def _piece(parts, paper):
    """Paper: words."""
    runs = parts[0]
    check_runs(runs)
    check_words(len(runs[0]), paper)
    return sorted(runs) == list(piece_of(len(runs[0]), paper))


def _no_piece(parts, paper):
    """Paper: two indexes of like runs, or three of runs whose product is missing."""
    runs = parts[0]
    check_runs(runs)
    if not is_lot(paper, len(runs)) or len(paper) not in (2, 3):
        return False
    told = [runs[at] for at in paper]
    return told[0] == told[1] if len(told) == 2 else run_product(told) not in runs


def _balanced(parts, paper):
    """Paper: ()."""
    runs, many = parts
    return is_balanced(runs, many) and _is_empty(paper)


def _not_balanced(parts, paper):
    """Paper: an effect whose signs do not come to 0."""
    runs, many = parts
    return not is_balanced(runs, many) and sum_of(runs, paper) != 0 and 1 <= len(paper) <= many


def _change(parts, paper):
    """Paper: ()."""
    trial, deed, other = parts
    return is_trial(other) and behind(trial, deed) == other and _is_empty(paper)


def _no_change(parts, paper):
    """Paper: ()."""
    trial, value = parts
    return not fits(trial, value) and _is_empty(paper)


def _read(parts, paper):
    """Paper: ()."""
    text, sheet = parts
    return is_sheet(sheet) and read_sheet(text) == sheet and _is_empty(paper)


def _not_read(parts, paper):
    """Paper: ()."""
    text, line = parts
    return isinstance(text, str) and is_whole(line) and sheet_or_wrong(text)[1] == line and _is_empty(paper)


# Which function checks a claim, by its text and its length. Each takes what stands behind the text,
# and a paper; it raises an error of the package or tells False for what is none.
CHECKS = {
    ("told", 3): _told,
    ("not told", 3): _not_told,
    ("best telling", 4): _best_telling,
    ("least spread", 4): _least_spread,
    ("nowhere below", 2): _nowhere_below,
    ("below somewhere", 2): _below_somewhere,
    ("at least as good", 3): _at_least_as_good,
    ("not as good", 3): _not_as_good,
    ("hang together", 4): _hang_together,
    ("part", 4): _part,
    ("even-handed", 2): _even_handed,
    ("best of all", 3): _best_of_all,
    ("not best of all", 3): _not_best_of_all,
    ("within", 4): _within,
    ("best shares", 4): _best_shares,
    ("outlasts", 4): _outlasts,
    ("does not outlast", 4): _does_not_outlast,
    ("alike", 6): _alike,
    ("apart", 5): _apart,
    ("empty piece", 3): _empty_piece,
    ("piece", 2): _piece,
    ("no piece", 2): _no_piece,
    ("balanced", 3): _balanced,
    ("not balanced", 3): _not_balanced,
    ("change", 4): _change,
    ("no change", 3): _no_change,
    ("read", 3): _read,
    ("not read", 3): _not_read,
}
