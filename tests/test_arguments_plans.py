"""What is raised for wrong arguments, in which order; how arguments are passed and kept: factors, plans, sheets, deeds."""

import unittest

from tests.calls import (LOT_FAULTS, QUESTION_FAULTS, TRIAL_FAULTS, WRONG_LOTS, WRONG_TRIALS, CallChecks, given, indexed, lined,
                         without)
from tests.sheet_sums import BEDS, BENCH
from tests.support import STRANGE, row, trial
from tests.test_deeds import NO_DEEDS
from tests.test_sheets import WRONG_TEXTS
from trialground import deeds, factors, plans, sheets
from trialground.errors import (InvalidBook, InvalidDeed, InvalidNumber, InvalidRows, InvalidRuns, InvalidText, InvalidWords,
                                Unfit)

RUN, OTHER, MORE = (1, -1, 1), (-1, -1, 1), (1, 1, 1)
WORD = ((0, 2), -1)
EMPTY = (((0,), 1), WORD, ((2,), 1))
TWICE = (WORD, WORD)

# No lots of three factors; () is one.
EFFECT_FAULTS = indexed(LOT_FAULTS[0][1], [(value, index) for value, index in WRONG_LOTS if repr(value) != "()"])
NO_RUNS = without(STRANGE, (1, 1), (1, 1, 1)) + (
    (1,) * 7, (1, 0, 1), (1, 2, 1), (1, -2), (1, True), (True,), (1, -1, None), (1, "1"), (1, (1,)), [1, -1, 1], "111", (0,),
    ((1, -1, 1),), (1, 10 ** 399),
)
FACTORS_FAULTS = given(InvalidNumber, without(STRANGE, 1), (7, -3, 60, (3,), [3], "3", 10 ** 399))
MANY_FAULTS = given(InvalidNumber, without(STRANGE, 1), (7, -6, (1,), "2", -10 ** 399))
WORDS_FAULTS = indexed(InvalidWords, [(value, None) for value in STRANGE if value.__class__ is not tuple] + [
    ([WORD], None), ((WORD,) * 7, None), ((None,) * 7, None), ((0,) * 1000, None), ({WORD: 1}, None), (WORD, 0),
    ((list(WORD),), 0), (((),), 0), ((None,), 0), ((WORD, (WORD,)), 1), ((WORD, WORD + (1,)), 1), ((WORD, ((), 1)), 1),
    ((WORD, ([0], 1)), 1), ((WORD, ((0,), 0)), 1), ((WORD, ((0,), 2)), 1), ((WORD, ((0,), -2)), 1), ((WORD, ((0,), True)), 1),
    ((WORD, ((0,), None)), 1), ((((3,), 1),), 0), ((WORD, ((0, 3), 1)), 1), ((WORD, ((-1,), 1)), 1), ((WORD, ((1, 0), 1)), 1),
    ((WORD, ((0, 0), 1)), 1), ((WORD, ((True,), 1)), 1), ((WORD, WORD, ((0, True), 1), None), 2), ((WORD,) * 5 + (None,), 5),
    ((WORD, (0, 1), ((), 1)), 1), ((WORD, ((0, 1, 2, 3), 1)), 1), ((((0,), "1"), WORD), 0), ((((0,), 10 ** 399),), 0),
    ((((10 ** 399,), 1),), 0), (((0, 2), -1), 0), ((WORD, ((None,), 1)), 1), ((WORD, (((0,),), 1)), 1),
])
RUNS_FAULTS = indexed(InvalidRuns, [(value, None) for value in STRANGE if value.__class__ is not tuple] + [
    ((), None), ([RUN], None), ((RUN,) * 65, None), ((None,) * 65, None), ((0,) * 1000, None), ({RUN: 1}, None), (RUN, 0),
    (((),), 0), ((None,), 0), ((list(RUN),), 0), ((RUN, list(RUN)), 1), ((RUN, (1, -1)), 1), ((RUN, OTHER, RUN + (1,)), 2),
    (((1,) * 7,), 0), ((RUN, (1,) * 7), 1), ((RUN, (1, 0, 1)), 1), ((RUN, (1, True, 1), None), 1), ((RUN, OTHER, None, ()), 2),
    ((RUN, (1, 1, 2)), 1), ((RUN, "111"), 1), (((1, 1, 10 ** 399), RUN), 0), ((RUN, (1, (1,), 1)), 1), ((RUN,) * 9 + (0,), 9),
    (((1, 1, True),), 0), ((RUN, ()), 1), (((1,), RUN), 1),
])
EFFECTS_FAULTS = indexed(InvalidRows, [(value, None) for value in STRANGE if value.__class__ is not tuple] + [
    ((), None), ([(0,)], None), (((0,), (1,), (2,), (0, 1), (0, 2), (1, 2)), None), ((None,) * 6, None), ((0,), 0), ((None,), 0),
    (((0,), (0,)), 1), (((), ()), 1), (((0,), (3,)), 1), (((0,), [1]), 1), (((0,), (1, 0)), 1), (((0,), (1, 1)), 1),
    (((0,), (-1,)), 1), (((True,), (0,)), 0), (((0,), (1,), (0, 1), (1,), None), 3), ((RUN,), 0), (((), (0, 1, 2, 3)), 1),
    (((), (0,), (1,), (2,), (0,)), 4), (((0, "1"),), 0), (((0,), ((0,),)), 1), (((10 ** 399,),), 0),
])
TRIPLES = (("abc",) * 3, ((), (), ()), (None,) * 3, (1, 1, 1), ([], [], []), ({}, {}, {}))
SHEET_FAULTS = indexed(InvalidBook, [(value, None) for value in STRANGE if value.__class__ is not tuple or len(value) != 3] + [
    (value, 0) for value in TRIPLES] + [
    (list(BENCH), None), (BENCH[:2], None), (BENCH + ((),), None), ((list(BENCH[0]),) + BENCH[1:], 0),
    ((("left",) * 2,) + BENCH[1:], 0), ((("left", "plot"),) + BENCH[1:], 0), (((),) + BENCH[1:], 0), ((("a",),) + BENCH[1:], 1),
    ((BENCH[0], list(BENCH[1]), ()), 1), ((BENCH[0], BEDS[1], ()), 1), ((BENCH[0], None, None), 1),
    ((BENCH[0], BENCH[1], None), 2), ((BENCH[0], BENCH[1], list(BENCH[2])), 2), ((BENCH[0], BENCH[1], BENCH[2] * 2), 2),
    ((BENCH[0], BENCH[1], (("both", row(1)),)), 2), ((BENCH[0], BENCH[1], (["both", row(1, 1)],)), 2),
    ((BENCH[0], BENCH[1], (("Both", row(1, 1)),)), 2), ((BENCH[0], BENCH[1], ((1, row(1, 1)),)), 2),
] + [((BENCH[0], wrong, BENCH[2]), 1) for wrong in STRANGE + WRONG_TRIALS])
TEXT_FAULTS = lined([(value, None) for value in STRANGE if value.__class__ is not str] + list(WRONG_TEXTS))
DEED_FAULTS = given(InvalidDeed, NO_DEEDS)
PLAIN, BLOCKED = trial([(1, 0), (0, 1), (1, 1)]), trial([(1, 0), (0, 1), (1, 1)], [1, 2, "1/3"], (0, 0, 2))


class Factors(CallChecks, unittest.TestCase):

    functions = (
        (factors, "effect_sign", ("run", "effect")),
        (factors, "odd_lot", ("factors", "effect", "other")),
        (factors, "products", ("factors", "words")),
        (factors, "piece", ("factors", "words")),
        (factors, "alike", ("factors", "words", "effect", "other")),
        (factors, "classes", ("factors", "words")),
        (factors, "shortest", ("factors", "words")),
    )
    rights = ({"run": RUN, "factors": 3, "words": (WORD,), "effect": (0, 2), "other": ()},
              {"run": OTHER, "factors": 3, "words": (), "effect": (1,), "other": (0, 1, 2)},
              {"run": MORE, "factors": 3, "words": TWICE, "effect": (0,), "other": (2,)})
    faults = {"run": indexed(InvalidRuns, [(value, None) for value in NO_RUNS]), "factors": FACTORS_FAULTS,
              "words": WORDS_FAULTS, "effect": EFFECT_FAULTS, "other": EFFECT_FAULTS}
    lasts = tuple((name, {"factors": 3, "words": words, "effect": (0,), "other": (0,)}, Unfit, "given", words)
                  for name in ("alike", "classes", "shortest")
                  for words in (EMPTY, (((1,), 1), ((1,), -1)), (WORD, WORD, ((0, 2), 1))))

    def test_of_their_own_factors(self):
        for many in range(1, 7):
            run = (-1,) * many
            self.assertEqual(factors.effect_sign(run, (many - 1,)), -1)
            for function, arguments in ((factors.effect_sign, (run,)), (factors.odd_lot, (many, ())),
                                        (factors.alike, (many, (), ()))):
                with self.assertRaises(LOT_FAULTS[0][1]) as caught:
                    function(*arguments, (0, many) if many > 0 else ())
                self.assertEqual(caught.exception.index, 1)
            with self.assertRaises(InvalidWords) as caught:
                factors.piece(many, (((0,), 1), ((many,), 1)))
            self.assertEqual(caught.exception.index, 1)


class Plans(CallChecks, unittest.TestCase):

    functions = (
        (plans, "sum_of", ("runs", "effect")),
        (plans, "is_balanced", ("runs", "many")),
        (plans, "balance", ("runs",)),
        (plans, "unbalanced", ("runs", "many")),
        (plans, "words_of", ("runs",)),
        (plans, "missing", ("runs",)),
        (plans, "trial_of", ("runs", "effects")),
    )
    rights = ({"runs": (RUN, OTHER), "effect": (0, 2), "many": 1, "effects": ((), (0,))},
              {"runs": (RUN, RUN, MORE), "effect": (), "many": 6, "effects": ((0, 1, 2),)})
    faults = {"runs": RUNS_FAULTS, "effect": EFFECT_FAULTS, "many": MANY_FAULTS, "effects": EFFECTS_FAULTS}


class PlansOfTrials(CallChecks, unittest.TestCase):

    functions = ((plans, "trial_of", ("runs", "effects")),)
    rights = Plans.rights
    # More than ten runs are too many, whatever they are.
    faults = {"runs": indexed(InvalidRuns, [((RUN,) * 11, None), ((RUN,) * 64, None), ((RUN,) * 10 + (None,), None),
                                            ((None,) + (RUN,) * 10, None), ((RUN,) * 9 + (None,), 9), ((0,) * 11, None)]),
              "effects": EFFECTS_FAULTS}


class Sheets(CallChecks, unittest.TestCase):

    functions = (
        (sheets, "is_sheet", ("value",)),
        (sheets, "is_name", ("value",)),
        (sheets, "sheet_text", ("sheet",)),
        (sheets, "read_sheet", ("text",)),
    )
    rights = ({"value": BENCH, "sheet": BENCH, "text": "unknowns a\nplain\nplot 1 1\n"},
              {"value": "left", "sheet": BEDS, "text": "unknowns a b\nblocks\nplot 1 1 1 0\nquestion a 0 0\n"})
    faults = {"sheet": SHEET_FAULTS, "text": TEXT_FAULTS}
    whatever = {"value": (True, False)}


class Deeds(CallChecks, unittest.TestCase):

    functions = (
        (deeds, "fits", ("trial", "value")),
        (deeds, "behind", ("trial", "deed")),
        (deeds, "standing", ("trial", "question")),
        (deeds, "leaves", ("trial", "deed", "question")),
    )
    rights = ({"trial": PLAIN, "value": ("strike", 0), "deed": ("put", row(1, 2), (1, 2), None), "question": row(1, 0)},
              {"trial": BLOCKED, "value": ("block", 0, 2), "deed": ("put", row(1, 2), (1, 2), 4), "question": row(1, -1)},
              {"trial": BLOCKED, "value": None, "deed": ("order", (2, 1, 0)), "question": row(1, 0)})
    faults = {"trial": TRIAL_FAULTS, "deed": DEED_FAULTS, "question": QUESTION_FAULTS}
    whatever = {"value": (True, False)}


class Errors(unittest.TestCase):

    def test_a_text_is_none_at_no_row(self):
        self.assertIsNone(TEXT_FAULTS[0][3])
        with self.assertRaises(InvalidText) as caught:
            sheets.read_sheet(text=b"")
        self.assertEqual(vars(caught.exception), {"line": None})


if __name__ == "__main__":
    unittest.main()
