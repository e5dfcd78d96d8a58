"""Indexes, and lots: ascending tuples of them."""

from trialground.ratios import is_whole


def is_index(value, many):
    """Tell whether a value is an index of so many things."""
    return is_whole(value) and 0 <= value < many


def wrong_in_lot(lot, many):
    """Where a tuple first has what is no index of so many things above the one ahead of it; None."""
    ahead = -1
    for at, each in enumerate(lot):
        if not is_whole(each) or not ahead < each < many:
            return at
        ahead = each
    return None


def is_lot(value, many):
    """Tell whether a value is an ascending tuple, () let, of indexes of so many things."""
    return isinstance(value, tuple) and wrong_in_lot(value, many) is None
