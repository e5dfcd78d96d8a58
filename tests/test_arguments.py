"""What is raised for wrong arguments, in which order; how arguments are passed and kept (points 3 to 5)."""

import inspect
import itertools
import unittest

from tests.support import STRANGE, row, trial
from trialground import best, tellings, trials
from trialground.errors import (InvalidLot, InvalidQuestion, InvalidTelling, InvalidTrial, InvalidWorld, NotTold,
                                TrialError, Unfit)

# Of the interface: each function with its parameters in order.
FUNCTIONS = (
    (trials, "is_trial", ("value",)),
    (trials, "is_world", ("trial", "value")),
    (trials, "is_question", ("trial", "value")),
    (trials, "yields", ("trial", "world")),
    (trials, "answer", ("trial", "question", "world")),
    (trials, "plots_of", ("trial", "lot")),
    (trials, "levels_of", ("trial",)),
    (tellings, "is_fair", ("trial", "question", "telling")),
    (tellings, "spread_of", ("trial", "telling")),
    (tellings, "told_or_shift", ("trial", "question")),
    (tellings, "is_shift", ("trial", "question", "value")),
    (best, "best_telling", ("trial", "question")),
    (best, "load_of", ("trial", "question")),
    (best, "is_load", ("trial", "telling", "value")),
    (best, "least_spread", ("trial", "question")),
    (best, "excess", ("trial", "question", "telling")),
)

PLAIN = {
    "trial": trial([(1, 0), (0, 1), (1, 1)]),
    "world": (row(2, "-1/2"), ()),
    "question": row(1, 0),
    "telling": row(1, 0, 0),
    "lot": (0, 2),
    "value": (row(1, -1), ()),
}
BLOCKED = {
    "trial": trial([(1, 0), (0, 1), (1, 1)], [1, 2, "1/3"], (0, 0, 2)),
    "world": (row(2, "-1/2"), row(1, 2, 3)),
    "question": row(1, -1),
    "telling": row(1, -1, 0),
    "lot": (1,),
    "value": (row(1, -1), row(0, 0, 0)),
}
WRONG_TRIALS = (
    trial([]), trial([()]), trial([(1, 0), (1,)]), trial([(1,)], [0]), trial([(1,)], ["-1/2"]), trial([(1,)], [1, 1]),
    trial([(1,)], []), trial([(1,)], [1], (5,)), trial([(1,)], [1], (-1,)), trial([(1,)], [1], (0, 0)),
    trial([(1,)] * 11), trial([(1,) * 6]), list(trial([(1,)])), ([row(1)], row(1), ()), (([(1, 1)],), row(1), ()),
    ((row(1),), list(row(1)), ()), ((row(1),), row(1), []), ((((2, 2),),), row(1), ()), ((((1, True),),), row(1), ()),
    ((row(1),), row(1), (True,)),
)
WRONG_WORLDS = ((), row(1, 1), (row(1), ()), (row(1, 1, 1), ()), (row(1, 1), row(1)), (list(row(1, 1)), ()),
                [row(1, 1), ()], (row(1, 1), ()) + ((),), (((2, 2), (1, 1)), ()), (((1, 1), (1, False)), ()))
WRONG_QUESTIONS = ((), row(1), row(1, 1, 1), list(row(1, 1)), ((1, 1), [1, 1]), ((1, 1), (2, 2)), ((1, 1), 1),
                   ((1, 1), (True, 1)), ((0, 0), (1, 1)), (1, 1))
WRONG_TELLINGS = ((), row(1, 1), row(1, 1, 1, 1), list(row(1, 1, 1)), row(1, 1) + ([1, 1],), row(1, 1) + ((2, 4),),
                  row(1, 1) + (0,), ((1, True),) + row(1, 1), (1, 1, 1))
# A wrong lot, and the index that is told.
WRONG_LOTS = (
    ((), None), ([0], None), ([], None), ("0", None), (b"0", None), (None, None), (0, None), (True, None), ({}, None),
    ({0}, None), (range(2), None), ((-1,), 0), ((3,), 0), ((10 ** 399,), 0), ((True,), 0), ((False, 1), 0), ((None,), 0),
    (("0", 1), 0), (((0,), 1), 0), (([0],), 0), (((),), 0), ((0, 0), 1), ((1, 0), 1), ((0, 1, 1), 2), ((0, 2, 1), 2),
    ((0, -1), 1), ((0, 1, -1), 2), ((0, 3), 1), ((0, 1, 2, 3), 3), ((0, True), 1), ((0, True, -1), 1), ((2, 2, 9), 1),
    ((0, 1, None), 2), ((0, 1, [2]), 2), ((5, 1, 0), 0), (tuple(range(1000)), 3),
)
FAULTS = {
    "trial": [(value, InvalidTrial, "given", value) for value in STRANGE + WRONG_TRIALS],
    "world": [(value, InvalidWorld, "given", value) for value in STRANGE + WRONG_WORLDS],
    "question": [(value, InvalidQuestion, "given", value) for value in STRANGE + WRONG_QUESTIONS],
    "telling": [(value, InvalidTelling, "given", value) for value in STRANGE + WRONG_TELLINGS],
    "lot": [(value, InvalidLot, "index", index) for value, index in WRONG_LOTS],
}


def right_arguments():
    for right in (PLAIN, BLOCKED):
        for module, name, parameters in FUNCTIONS:
            yield getattr(module, name), parameters, right


class Faults(unittest.TestCase):

    def check(self, function, parameters, arguments, fault):
        _, wanted, attribute, told = fault
        for call in (lambda: function(*[arguments[name] for name in parameters]),
                     lambda: function(**{name: arguments[name] for name in reversed(parameters)})):
            with self.assertRaises(TrialError) as caught:
                call()
            self.assertIs(caught.exception.__class__, wanted)
            self.assertIs(getattr(caught.exception, attribute), told)

    def test_each_argument_wrong_by_itself(self):
        for function, parameters, right in right_arguments():
            for name in parameters:
                for fault in FAULTS.get(name, ()):
                    arguments = {each: right[each] for each in parameters}
                    arguments[name] = fault[0]
                    self.check(function, parameters, arguments, fault)

    def test_several_wrong_at_once(self):
        for function, parameters, right in right_arguments():
            checked = [name for name in parameters if name in FAULTS]
            for many in range(2, len(checked) + 1):
                for names in itertools.combinations(checked, many):
                    faults = [[FAULTS[name][at] for name in names] for at in (0, 3, -1)]
                    for chosen in faults:
                        arguments = {each: right[each] for each in parameters}
                        arguments.update({name: fault[0] for name, fault in zip(names, chosen)})
                        self.check(function, parameters, arguments, chosen[0])

    def test_value_is_looked_at_behind_the_others(self):
        for function, parameters, right in right_arguments():
            if "value" in parameters and len(parameters) > 1:
                for name in parameters[:-1]:
                    for value in STRANGE[:6]:
                        arguments = {each: right[each] for each in parameters}
                        arguments.update({name: FAULTS[name][0][0], "value": value})
                        self.check(function, parameters, arguments, FAULTS[name][0])

    def test_value_raises_nothing(self):
        for function, parameters, right in right_arguments():
            if "value" in parameters:
                for value in STRANGE + WRONG_WORLDS[:5] + WRONG_QUESTIONS[:5]:
                    arguments = {each: right[each] for each in parameters}
                    arguments["value"] = value
                    self.assertIn(function(**arguments), (True, False))

    def test_fit_for_its_own_trial_alone(self):
        with self.assertRaises(InvalidWorld):
            trials.yields(PLAIN["trial"], BLOCKED["world"])
        with self.assertRaises(InvalidWorld):
            trials.yields(BLOCKED["trial"], PLAIN["world"])
        with self.assertRaises(InvalidQuestion):
            best.best_telling(trial([(1,)]), row(1, 0))
        with self.assertRaises(InvalidTelling):
            tellings.spread_of(trial([(1,)]), row(1, 0))


class Last(unittest.TestCase):
    """What is told with "last" is raised if nothing else is wrong."""

    untold = trial([(1, 1), (1, 1)])

    def test_not_told_is_last(self):
        for function in (best.best_telling, best.load_of, best.least_spread):
            with self.assertRaises(NotTold) as caught:
                function(self.untold, row(1, 0))
            self.assertEqual(vars(caught.exception), {})
            self.assertRaises(NotTold, function, trial=self.untold, question=row(1, 0))
            self.assertRaises(InvalidTrial, function, list(self.untold), row(1, 0))
            self.assertRaises(InvalidQuestion, function, self.untold, list(row(1, 0)))

    def test_unfit_is_last(self):
        unfair = row(1, 1)
        with self.assertRaises(Unfit) as caught:
            best.excess(self.untold, row(1, 1), unfair)
        self.assertIs(caught.exception.given, unfair)
        self.assertRaises(Unfit, best.excess, telling=unfair, question=row(1, 1), trial=self.untold)
        # A question that is not told has no fair telling: no other error is told for it.
        self.assertRaises(Unfit, best.excess, self.untold, row(1, 0), row(1, 0))
        self.assertRaises(InvalidTrial, best.excess, list(self.untold), row(1, 1), unfair)
        self.assertRaises(InvalidQuestion, best.excess, self.untold, row(1), unfair)
        self.assertRaises(InvalidTelling, best.excess, self.untold, row(1, 1), row(1))
        self.assertRaises(InvalidTelling, best.excess, self.untold, row(1, 0), list(unfair))


class Calls(unittest.TestCase):

    def test_parameters_and_where_they_are_defined(self):
        for module, name, parameters in FUNCTIONS:
            function = getattr(module, name)
            self.assertEqual(tuple(inspect.signature(function).parameters), parameters)
            self.assertEqual(function.__module__, module.__name__)

    def test_by_position_and_by_name_alike(self):
        for function, parameters, right in right_arguments():
            by_position = function(*[right[name] for name in parameters])
            by_name = function(**{name: right[name] for name in reversed(parameters)})
            mixed = function(right[parameters[0]], **{name: right[name] for name in parameters[1:]})
            self.assertEqual(repr(by_position), repr(by_name))
            self.assertEqual(repr(by_position), repr(mixed))

    def test_equal_calls_return_equal_results(self):
        for function, parameters, right in right_arguments():
            first = function(*[right[name] for name in parameters])
            # The same values made anew.
            again = function(*[eval(repr(right[name])) for name in parameters])
            self.assertEqual(repr(first), repr(again))

    def test_no_argument_is_changed(self):
        wrong = ([[[0, 1]]], {"a": [1]}, [row(1, 1), [[1, 1]]], ([row(1)], row(1), [0]), (list(row(1, 0)), [1]))
        for function, parameters, right in right_arguments():
            for name in parameters:
                for value in wrong:
                    ahead = repr(value)
                    arguments = {each: right[each] for each in parameters}
                    arguments[name] = value
                    try:
                        function(**arguments)
                    except TrialError:
                        pass
                    self.assertEqual(repr(value), ahead)


if __name__ == "__main__":
    unittest.main()
