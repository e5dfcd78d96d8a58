"""What is raised for wrong arguments, in which order; how arguments are passed and kept: together, shares, asked, losses."""

import unittest

from tests.calls import (LOT_FAULTS, QUESTION_FAULTS, TRIAL_FAULTS, WRONG_QUESTIONS, WRONG_TRIALS, CallChecks, given,
                         indexed)
from tests.support import STRANGE, row, trial
from trialground import asked, losses, shares, together
from trialground.errors import InvalidNumber, InvalidQuestion, InvalidRows, InvalidShares, NotTold, Unfit

PLAIN = trial([(1, 0), (0, 1), (1, 1)])
SPREAD = trial([(1, 0), (0, 1), (1, 1)], [1, 2, "1/3"])
BLOCKED = trial([(1, 0), (0, 1), (1, 1)], [1, 2, "1/3"], (0, 0, 2))
JUST_BLOCKED = trial([(1, 0), (0, 1), (1, 1)], None, (0, 0, 2))
TWICE = trial([(1, 1), (1, 1), (1, 1)])
TWICE_SPREAD = trial([(1, 1), (1, 1), (1, 1)], [1, 1, 2])
TEN, TEN_BLOCKED, ONE_UNKNOWN = trial([(1, 1)] * 10), trial([(1, 1)] * 10, None, (4,) * 10), trial([(1,)], [1], (4,))
THIRDS, THIN = row("1/3", "1/3", "1/3"), row(0, 0, 1)

# None of these is a plot more, with blocks or without.
NO_PLOTS = STRANGE + WRONG_TRIALS + (
    (row(1), (1, 1), None), (row(1, 1, 1), (1, 1), None), (row(1, 1), (0, 1), None), (row(1, 1), (-1, 2), None),
    (row(1, 1), (2, 2), None), (row(1, 1), (True, 1), None), (row(1, 1), 1, None), (row(1, 1), [1, 1], None),
    (list(row(1, 1)), (1, 1), None), (((1, 1), [1, 1]), (1, 1), None), (((1, 1), (2, 4)), (1, 1), None),
    [row(1, 1), (1, 1), None], (row(1, 1), (1, 1)), (row(1, 1), (1, 1), None, None), (row(1, 1), (1, 1), ()),
    (row(1, 1), (1, 1), 5), (row(1, 1), (1, 1), -1), (row(1, 1), (1, 1), 10 ** 399), (row(1, 1), (1, 1), True),
    (row(1, 1), (1, 1), False), (row(1, 1), (1, 1), "0"), (row(1, 1), (1, 1), (0,)), (row(1, 1), (1, 1), [0]),
    (row(1), (0, 1), 0), (row(1, 1), (0, 1), 0), (row(1), (1, 1), 0), ((), (1, 1), 0), (None, (1, 1), 0),
    (row(1, 1), None, 0), ((1, 1), row(1, 1), 0),
)
WRONG_SHARES = STRANGE + (
    row("1/2", "1/2"), row(1), row("1/4", "1/4", "1/4", "1/4"), row(1, 0, 0, 0), row(1, 1, -1), row(0, 0, 0),
    row("1/3", "1/3", "1/6"), row(1, 1, 1), list(THIRDS), ([1, 3], (1, 3), (1, 3)), ((2, 6), (1, 3), (1, 3)),
    ((1, 1), (0, 1), (0, True)), ((1, 1), (0, 1), 0), (1, 0, 0), ((1, 1), (False, 1), (0, 1)), ((1, 1), (0, 2), (0, 1)),
)
SHARES_FAULTS = given(InvalidShares, WRONG_SHARES)
NO_NUMBERS = tuple(value for value in STRANGE if value.__class__ is not int)


class Together(CallChecks, unittest.TestCase):

    functions = ((together, "apart", ("one", "other")), (together, "together", ("one", "other")))
    rights = ({"one": PLAIN, "other": SPREAD}, {"one": BLOCKED, "other": JUST_BLOCKED[:2] + ((1, 0, 1),)})
    faults = {"one": TRIAL_FAULTS, "other": TRIAL_FAULTS}
    # What is unfit, in its order: other unknowns, just one with blocks, too many plots, too great a block.
    lasts = tuple((name, {"one": one, "other": other}, Unfit, "given", told) for name in ("apart", "together")
                  for one, other, told in (
                      (PLAIN, trial([(1,)]), 1), (trial([(1,)]), PLAIN, 2), (PLAIN, ONE_UNKNOWN, 1),
                      (TEN, ONE_UNKNOWN, 1), (TEN_BLOCKED, ONE_UNKNOWN, 1), (PLAIN, BLOCKED, BLOCKED),
                      (BLOCKED, PLAIN, PLAIN), (TEN, BLOCKED, BLOCKED), (TEN_BLOCKED, PLAIN, PLAIN), (TEN, PLAIN, 13),
                      (TEN_BLOCKED, JUST_BLOCKED, 13), (TEN_BLOCKED, TEN_BLOCKED, 20))
                  ) + (("apart", {"one": BLOCKED, "other": BLOCKED}, Unfit, "given", 5),)


class Unblocked(CallChecks, unittest.TestCase):

    functions = ((together, "unblocked", ("trial",)),)
    rights = ({"trial": PLAIN}, {"trial": BLOCKED})
    faults = {"trial": TRIAL_FAULTS}


class PlotMore(CallChecks, unittest.TestCase):

    functions = (
        (together, "with_plot", ("trial", "plot")),
        (together, "square_of", ("trial", "plot")),
        (together, "fall", ("trial", "question", "plot")),
    )
    rights = ({"trial": PLAIN, "question": row(1, 0), "plot": (row(1, 2), (1, 2), None)},)
    wrong = NO_PLOTS + tuple((row(1, 2), (1, 2), block) for block in range(5))
    faults = {"trial": TRIAL_FAULTS, "question": QUESTION_FAULTS, "plot": indexed(InvalidRows, [(each, None) for each in wrong])}
    plot = (row(1, 2), (1, 2), None)
    lasts = (
        ("with_plot", {"trial": TEN, "plot": plot}, Unfit, "given", 11),
        ("fall", {"trial": TWICE, "question": row(1, 0), "plot": plot}, NotTold, None, None),
        ("fall", {"trial": TWICE, "question": row(1, 0), "plot": (row(1, 0), (1, 2), None)}, NotTold, None, None),
    )


class PlotMoreInABlock(PlotMore):

    rights = tuple({"trial": BLOCKED, "question": row(1, -1), "plot": (row(1, 2), (1, 2), block)} for block in range(5))
    wrong = NO_PLOTS + ((row(1, 2), (1, 2), None),)
    faults = {"trial": TRIAL_FAULTS, "question": QUESTION_FAULTS, "plot": indexed(InvalidRows, [(each, None) for each in wrong])}
    lasts = (
        ("with_plot", {"trial": TEN_BLOCKED, "plot": (row(1, 2), (1, 2), 4)}, Unfit, "given", 11),
        ("fall", {"trial": BLOCKED, "question": row(1, 0), "plot": (row(1, 2), (1, 2), 0)}, NotTold, None, None),
        # In a block without plots nothing falls, but the question has to be told all the same.
        ("fall", {"trial": BLOCKED, "question": row(1, 0), "plot": (row(1, 2), (1, 2), 1)}, NotTold, None, None),
    )


class Shares(CallChecks, unittest.TestCase):

    functions = (
        (shares, "are_shares", ("trial", "value")),
        (shares, "share_table", ("trial", "shares")),
        (shares, "own_spreads", ("trial", "shares")),
        (shares, "is_best", ("trial", "shares")),
        (shares, "bettered", ("trial", "shares")),
        (shares, "room", ("trial", "shares")),
    )
    rights = ({"trial": PLAIN, "shares": row("1/2", "1/2", 0), "value": THIRDS},
              {"trial": SPREAD, "shares": THIRDS, "value": row(0, 0, 1)})
    faults = {"trial": TRIAL_FAULTS, "shares": SHARES_FAULTS}
    whatever = {"value": (True, False)}
    lasts = tuple((name, {"trial": BLOCKED, "shares": told, "value": told}, Unfit, "given", BLOCKED[2])
                  for name in ("are_shares", "share_table", "own_spreads", "is_best", "bettered", "room")
                  for told in (THIRDS, THIN)) + tuple(
        # Shares that are not full, behind blocks.
        (name, {"trial": PLAIN, "shares": told}, Unfit, "given", told)
        for name in ("bettered", "room") for told in (THIN, row(1, 0, 0), row(0, 1, 0)))


class Asked(CallChecks, unittest.TestCase):

    functions = (
        (asked, "best_shares", ("trial", "question")),
        (asked, "spread_with", ("trial", "question", "shares")),
        (asked, "height", ("trial", "question", "row")),
    )
    rights = ({"trial": PLAIN, "question": row(1, 0), "shares": THIRDS, "row": row(1, 0)},
              {"trial": TWICE, "question": row(-2, -2), "shares": row(1, 0, 0), "row": row(0, -1)},
              {"trial": PLAIN, "question": row("1/2", 7), "shares": row(1, 0, 0), "row": row(0, 2)})
    faults = {"trial": TRIAL_FAULTS, "question": QUESTION_FAULTS + given(InvalidQuestion, (row(0, 0),)),
              "shares": SHARES_FAULTS}
    whatever = {"row": (None,)}
    lasts = tuple((name, {"trial": made, "question": question, "shares": THIRDS, "row": row(0, 0)}, error, attribute, told)
                  for name in ("best_shares", "spread_with", "height")
                  for made, question, error, attribute, told in (
                      (JUST_BLOCKED, row(1, -1), Unfit, "given", JUST_BLOCKED[2]),
                      (BLOCKED, row(1, -1), Unfit, "given", BLOCKED[2]), (BLOCKED, row(1, 0), Unfit, "given", BLOCKED[2]),
                      (JUST_BLOCKED, row(1, 0), Unfit, "given", JUST_BLOCKED[2]),
                      (SPREAD, row(1, 0), Unfit, "given", SPREAD[1]),
                      (TWICE_SPREAD, row(1, 1), Unfit, "given", TWICE_SPREAD[1]),
                      (TWICE_SPREAD, row(1, 0), Unfit, "given", TWICE_SPREAD[1]), (TWICE, row(1, 0), NotTold, None, None)))

    def test_noughts_alone_for_each_number_of_unknowns(self):
        for unknowns in range(1, 6):
            made, noughts = trial([(1,) * unknowns]), row(*[0] * unknowns)
            for call in (lambda: asked.best_shares(made, noughts), lambda: asked.spread_with(made, noughts, None),
                         lambda: asked.height(made, noughts, None)):
                with self.assertRaises(InvalidQuestion) as caught:
                    call()
                self.assertIs(caught.exception.given, noughts)


class Losses(CallChecks, unittest.TestCase):

    functions = (
        (losses, "does_spoil", ("trial", "question", "lot")),
        (losses, "spoiling", ("trial", "question")),
        (losses, "strength", ("trial", "question")),
        (losses, "outlasting", ("trial", "question", "many")),
    )
    rights = ({"trial": PLAIN, "question": row(1, 0), "lot": (0, 2), "many": 1},
              {"trial": BLOCKED, "question": row(1, -1), "lot": (1,), "many": 3},
              {"trial": BLOCKED, "question": row(0, 0), "lot": (0, 1, 2), "many": 0})
    faults = {"trial": TRIAL_FAULTS, "question": QUESTION_FAULTS, "lot": LOT_FAULTS,
              "many": given(InvalidNumber, NO_NUMBERS, (-1, 4, 5, -10 ** 399, 10 ** 399, (1,), [1], "1", True, False))}
    lasts = tuple((name, {"trial": made, "question": row(1, 0), "lot": lot, "many": many}, NotTold, None, None)
                  for name in ("does_spoil", "spoiling", "strength", "outlasting") for made in (TWICE, BLOCKED)
                  for lot, many in (((0,), 0), ((0, 1, 2), 3)))


class OfOtherTrials(unittest.TestCase):

    def test_as_many_as_the_trial_has(self):
        for plots in range(1, 11):
            made = trial([(1,)] * plots)
            for many in range(1, 12):
                told = tuple((1, 1) if k == 0 else (0, 1) for k in range(many))
                if many != plots:
                    self.assertRaises(InvalidShares, shares.share_table, made, told)
                    self.assertRaises(InvalidShares, asked.spread_with, made, row(1), told)
                if many > plots:
                    self.assertRaises(InvalidNumber, losses.outlasting, made, row(1), many)
        for wrong in WRONG_QUESTIONS:
            self.assertRaises(InvalidQuestion, together.fall, PLAIN, wrong, None)


if __name__ == "__main__":
    unittest.main()
