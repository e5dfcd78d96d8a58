"""What is raised for wrong arguments, in which order; how arguments are passed and kept: trials, tellings, best."""

import unittest

from tests.calls import LOT_FAULTS, QUESTION_FAULTS, TELLING_FAULTS, TRIAL_FAULTS, WORLD_FAULTS, CallChecks
from tests.support import row, trial
from trialground import best, tellings, trials
from trialground.errors import (InvalidQuestion, InvalidTelling, InvalidTrial, InvalidWorld, NotTold, Unfit)

PLAIN = {
    "trial": trial([(1, 0), (0, 1), (1, 1)]),
    "world": (row(2, "-1/2"), ()),
    "question": row(1, 0),
    "telling": row(1, 0, 0),
    "lot": (0, 2),
    "value": (row(1, -1), ()),
}
BLOCKED = {
    "trial": trial([(1, 0), (0, 1), (1, 1)], [1, 2, "1/3"], (0, 0, 2)),
    "world": (row(2, "-1/2"), row(1, 2, 3)),
    "question": row(1, -1),
    "telling": row(1, -1, 0),
    "lot": (1,),
    "value": (row(1, -1), row(0, 0, 0)),
}
TWICE = trial([(1, 1), (1, 1), (1, 1)])
UNTOLD = {"trial": TWICE, "question": row(1, 0)}
UNFAIR = row(1, 1, 1)


class Calls(CallChecks, unittest.TestCase):

    functions = (
        (trials, "is_trial", ("value",)),
        (trials, "is_world", ("trial", "value")),
        (trials, "is_question", ("trial", "value")),
        (trials, "yields", ("trial", "world")),
        (trials, "answer", ("trial", "question", "world")),
        (trials, "plots_of", ("trial", "lot")),
        (trials, "levels_of", ("trial",)),
        (tellings, "is_fair", ("trial", "question", "telling")),
        (tellings, "spread_of", ("trial", "telling")),
        (tellings, "told_or_shift", ("trial", "question")),
        (tellings, "is_shift", ("trial", "question", "value")),
        (best, "best_telling", ("trial", "question")),
        (best, "load_of", ("trial", "question")),
        (best, "is_load", ("trial", "telling", "value")),
        (best, "least_spread", ("trial", "question")),
        (best, "excess", ("trial", "question", "telling")),
    )
    rights = (PLAIN, BLOCKED)
    faults = {"trial": TRIAL_FAULTS, "world": WORLD_FAULTS, "question": QUESTION_FAULTS, "telling": TELLING_FAULTS,
              "lot": LOT_FAULTS}
    whatever = {"value": (True, False)}
    lasts = tuple((name, UNTOLD, NotTold, None, None) for name in ("best_telling", "load_of", "least_spread")) + (
        ("excess", {"trial": TWICE, "question": row(1, 1), "telling": UNFAIR}, Unfit, "given", UNFAIR),
        # A question that is not told has no fair telling: no other error is told for it.
        ("excess", {"trial": TWICE, "question": row(1, 0), "telling": UNFAIR}, Unfit, "given", UNFAIR),
    )

    def test_fit_for_its_own_trial_alone(self):
        with self.assertRaises(InvalidWorld):
            trials.yields(PLAIN["trial"], BLOCKED["world"])
        with self.assertRaises(InvalidWorld):
            trials.yields(BLOCKED["trial"], PLAIN["world"])
        with self.assertRaises(InvalidQuestion):
            best.best_telling(trial([(1,)]), row(1, 0))
        with self.assertRaises(InvalidTelling):
            tellings.spread_of(trial([(1,)]), row(1, 0))

    def test_unfit_is_last(self):
        untold, unfair = trial([(1, 1), (1, 1)]), row(1, 1)
        self.assertRaises(Unfit, best.excess, telling=unfair, question=row(1, 1), trial=untold)
        self.assertRaises(InvalidTrial, best.excess, list(untold), row(1, 1), unfair)
        self.assertRaises(InvalidQuestion, best.excess, untold, row(1), unfair)
        self.assertRaises(InvalidTelling, best.excess, untold, row(1, 0), list(unfair))


if __name__ == "__main__":
    unittest.main()
