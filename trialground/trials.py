"""Trials, their worlds and questions, and what plots yield."""

from trialground.errors import InvalidLot, InvalidQuestion, InvalidTrial, InvalidWorld, Unfit
from trialground.lots import is_index, wrong_in_lot
from trialground.ratios import NIL, ONE, is_fraction, is_row, row_product

MOST_PLOTS = 10
MOST_UNKNOWNS = 5
GREATEST_BLOCK = 4


def is_trial(value):
    """Tell whether a value, whatever it is, is a trial."""
    if not isinstance(value, tuple) or len(value) != 3:
        return False
    rows, spreads, blocks = value
    return _are_plots(rows) and _are_spreads(spreads, len(rows)) and _are_blocks(blocks, len(rows))


def is_world(trial, value):
    """Tell whether a value, whatever it is, is a world of the trial."""
    check_trial(trial)
    return is_world_of(trial, value)


def is_question(trial, value):
    """Tell whether a value, whatever it is, is a question of the trial."""
    check_trial(trial)
    return is_question_of(trial, value)


def yields(trial, world):
    """The row of what the plots yield in a world."""
    check_trial(trial)
    check_world(trial, world)
    return yields_in(trial, world)


def answer(trial, question, world):
    """The answer of a question in a world."""
    check_trial(trial)
    check_question(trial, question)
    check_world(trial, world)
    return answer_in(question, world)


def plots_of(trial, lot):
    """The trial of the plots of a lot alone, with their spreads and blocks."""
    check_trial(trial)
    check_lot(trial, lot)
    rows, spreads, blocks = trial
    kept = tuple([blocks[plot] for plot in lot]) if blocks else ()
    return (tuple([rows[plot] for plot in lot]), tuple([spreads[plot] for plot in lot]), kept)


def levels_of(trial):
    """How many levels a trial has."""
    check_trial(trial)
    return count_levels(trial)


def check_trial(trial):
    """Raise InvalidTrial for no trial."""
    if not is_trial(trial):
        raise InvalidTrial(trial)


def check_pair(one, other):
    """Raise InvalidTrial for the first that is no trial, then Unfit for other numbers of unknowns."""
    check_trial(one)
    check_trial(other)
    unknowns = len(other[0][0])
    if unknowns != len(one[0][0]):
        raise Unfit(unknowns)


def check_world(trial, world):
    """Raise InvalidWorld for no world of the trial."""
    if not is_world_of(trial, world):
        raise InvalidWorld(world)


def check_question(trial, question):
    """Raise InvalidQuestion for no question of the trial."""
    if not is_question_of(trial, question):
        raise InvalidQuestion(question)


def check_lot(trial, lot):
    """Raise InvalidLot for no ascending tuple of one or more plots of the trial."""
    if not isinstance(lot, tuple) or len(lot) == 0:
        raise InvalidLot(None)
    at = wrong_in_lot(lot, len(trial[0]))
    if at is not None:
        raise InvalidLot(at)


def is_world_of(trial, value):
    """Tell whether a value is a world of what is known to be a trial."""
    if not isinstance(value, tuple) or len(value) != 2:
        return False
    values, levels = value
    return is_question_of(trial, values) and is_row(levels, count_levels(trial))


def is_question_of(trial, value):
    """Tell whether a value is a question of what is known to be a trial."""
    return is_row(value, len(trial[0][0]))


def is_spread(value):
    """Tell whether a value is a fraction above 0."""
    return is_fraction(value) and value[0] > 0


def is_block(value):
    """Tell whether a value is the number of a block."""
    return is_index(value, GREATEST_BLOCK + 1)


def count_levels(trial):
    """How many levels what is known to be a trial has."""
    return max(trial[2], default=-1) + 1


def wide_rows(trial):
    """The plots' rows, each with a 1 behind it at the level of its block and 0 at all others."""
    rows, _, blocks = trial
    many = count_levels(trial)
    if many == 0:
        return rows
    return tuple([row + _level_marks(block, many) for row, block in zip(rows, blocks)])


def wide_question(trial, question):
    """A question with a 0 behind it for each level."""
    return question + (NIL,) * count_levels(trial)


def yields_in(trial, world):
    """What the plots yield in what is known to be a world of the trial."""
    values, levels = world
    return tuple([row_product(row, values + levels) for row in wide_rows(trial)])


def answer_in(question, world):
    """The answer of a question in what is known to be a world of its trial."""
    return row_product(question, world[0])


def _level_marks(block, many):
    """A row of so many fractions with 1 for a block and 0 otherwise."""
    return tuple([ONE if level == block else NIL for level in range(many)])


def _are_plots(value):
    """Tell whether a value is a tuple of plots' rows."""
    if not isinstance(value, tuple) or not 1 <= len(value) <= MOST_PLOTS:
        return False
    first = value[0]
    if not isinstance(first, tuple) or not 1 <= len(first) <= MOST_UNKNOWNS:
        return False
    return all(is_row(row, len(first)) for row in value)


def _are_spreads(value, many):
    """Tell whether a value is a row of so many fractions above 0."""
    return isinstance(value, tuple) and len(value) == many and all(is_spread(spread) for spread in value)


def _are_blocks(value, many):
    """Tell whether a value is () or the blocks of so many plots."""
    if not isinstance(value, tuple) or len(value) not in (0, many):
        return False
    return all(is_block(block) for block in value)
