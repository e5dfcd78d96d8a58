"""Trials of kinds: which kinds hang together, and how well their differences are told."""

from trialground.errors import InvalidNumber, Unfit
from trialground.lots import is_index
from trialground.ratios import NIL, ONE, fraction
from trialground.tables import least_in, table_in
from trialground.trials import check_trial


def is_of_kinds(trial):
    """Tell whether a trial has blocks, and one 1 and otherwise noughts in each row."""
    check_trial(trial)
    return _has_kinds(trial)


def way_between(trial, kind, other):
    """Any way from a kind to another one; None."""
    check_kinds(trial)
    check_kind(trial, kind)
    check_kind(trial, other)
    return _ways_from(trial, kind).get(other)


def parts_of(trial):
    """The ascending tuple of the lots of kinds that hang together."""
    check_kinds(trial)
    parts = []
    for kind in range(len(trial[0][0])):
        part = tuple(sorted(list(_ways_from(trial, kind))))
        if part not in parts:
            parts.append(part)
    return tuple(parts)


def difference_spread(trial, kind, other):
    """The least spread of the difference of two kinds; None if it is not told."""
    check_kinds(trial)
    check_kind(trial, kind)
    check_kind(trial, other)
    unknowns = range(len(trial[0][0]))
    return least_in(trial, tuple([fraction(int(at == kind) - int(at == other), 1) for at in unknowns]))


def is_even_handed(trial):
    """Tell whether all differences are told with one least spread; False for one kind."""
    check_kinds(trial)
    table = table_in(trial)
    many = len(table)
    # The numbers of each row come to 0, so one kind alone has no number above 0.
    own = [table[at][at] for at in range(many)]
    beside = [table[one][other] for one in range(many) for other in range(many) if one != other]
    return own[0][0] > 0 and own == own[:1] * len(own) and beside == beside[:1] * len(beside)


def check_kinds(trial):
    """Raise InvalidTrial for no trial, Unfit for one that is not of kinds."""
    check_trial(trial)
    if not _has_kinds(trial):
        raise Unfit(trial)


def check_kind(trial, kind):
    """Raise InvalidNumber for no index of an unknown."""
    if not is_index(kind, len(trial[0][0])):
        raise InvalidNumber(kind)


def neighbours(trial, kind):
    """The kinds with plots in the blocks of a kind's plots, the kind itself among them."""
    plots = [(row.index(ONE), block) for row, block in zip(trial[0], trial[2])]
    blocks = [block for its, block in plots if its == kind]
    return sorted({its for its, block in plots if block in blocks})


def _has_kinds(trial):
    """Tell whether what is known to be a trial is of kinds."""
    return trial[2] != () and all(_is_of_one_kind(row) for row in trial[0])


def _is_of_one_kind(row):
    """Tell whether a row has one 1 and otherwise noughts."""
    return row.count(ONE) == 1 and row.count(NIL) == len(row) - 1


def _ways_from(trial, kind):
    """A dict with a way from a kind to each kind that hangs together with it."""
    ways = {kind: (kind,)}
    ends = [kind]
    while ends:
        end = ends.pop()
        for near in neighbours(trial, end):
            if near not in ways:
                ways[near] = ways[end] + (near,)
                ends.append(near)
    return ways
