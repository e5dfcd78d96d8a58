"""Two trials: whether one is at least as good as the other for all questions."""

from trialground.squares import split_table, table_minus, table_times
from trialground.tables import table_in
from trialground.trials import check_pair


def is_at_least_as_good(one, other):
    """Tell whether the one tells all that the other one tells, with no greater least spreads."""
    return compared(one, other)[0] == "as good"


def compared(one, other):
    """("as good", any squares of the difference of the tables), or ("not", ROW, QUESTION).

    ROW is any row for which the difference is below 0; QUESTION is what the other one's table
    makes of it: the other one tells it better, or alone.
    """
    check_pair(one, other)
    table = table_in(other)
    kind, found = split_table(table_minus(table_in(one), table))
    if kind == "squares":
        return ("as good", found)
    return ("not", found, table_times(table, found))


def are_equally_good(one, other):
    """Tell whether each of two trials is as good as the other."""
    check_pair(one, other)
    return table_in(one) == table_in(other)
