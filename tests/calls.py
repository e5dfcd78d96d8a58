"""How functions are called, in whatever module: what is raised for wrong arguments, in which order; how arguments
are passed and kept (points 3 to 5). A test case tells, under CallChecks, what is right and what is wrong."""

import inspect
import itertools

from tests.support import STRANGE, row, trial
from trialground.errors import (InvalidLot, InvalidQuestion, InvalidTelling, InvalidText, InvalidTrial, InvalidWorld,
                                TrialError)

WRONG_TRIALS = (
    trial([]), trial([()]), trial([(1, 0), (1,)]), trial([(1,)], [0]), trial([(1,)], ["-1/2"]), trial([(1,)], [1, 1]),
    trial([(1,)], []), trial([(1,)], [1], (5,)), trial([(1,)], [1], (-1,)), trial([(1,)], [1], (0, 0)),
    trial([(1,)] * 11), trial([(1,) * 6]), list(trial([(1,)])), ([row(1)], row(1), ()), (([(1, 1)],), row(1), ()),
    ((row(1),), list(row(1)), ()), ((row(1),), row(1), []), ((((2, 2),),), row(1), ()), ((((1, True),),), row(1), ()),
    ((row(1),), row(1), (True,)), ((([1, 1],),), row(1), ()), ((row(1),), ([1, 1],), ()), ((row(1),), row(1), [0]),
)
WRONG_WORLDS = ((), row(1, 1), (row(1), ()), (row(1, 1, 1), ()), (row(1, 1), row(1)), (list(row(1, 1)), ()),
                [row(1, 1), ()], (row(1, 1), ()) + ((),), (((2, 2), (1, 1)), ()), (((1, 1), (1, False)), ()))
# None of these is a row of two fractions.
WRONG_QUESTIONS = ((), row(1), row(1, 1, 1), list(row(1, 1)), ((1, 1), [1, 1]), ((1, 1), (2, 2)), ((1, 1), 1),
                   ((1, 1), (True, 1)), ((0, 0), (1, 1)), (1, 1), (row(1, 1),), ((1, 1), (1, -1)), ((1, 1), (1, 1, 1)))
# None of these is a row of three.
WRONG_TELLINGS = ((), row(1, 1), row(1, 1, 1, 1), list(row(1, 1, 1)), row(1, 1) + ([1, 1],), row(1, 1) + ((2, 4),),
                  row(1, 1) + (0,), ((1, True),) + row(1, 1), (1, 1, 1))
# What is wrong for a lot of three plots, and the index that is told.
WRONG_LOTS = (
    ((), None), ([0], None), ([], None), ("0", None), (b"0", None), (None, None), (0, None), (True, None), ({}, None),
    ({0}, None), (range(2), None), ((-1,), 0), ((3,), 0), ((10 ** 399,), 0), ((True,), 0), ((False, 1), 0), ((None,), 0),
    (("0", 1), 0), (((0,), 1), 0), (([0],), 0), (((),), 0), ((0, 0), 1), ((1, 0), 1), ((0, 1, 1), 2), ((0, 2, 1), 2),
    ((0, -1), 1), ((0, 1, -1), 2), ((0, 3), 1), ((0, 1, 2, 3), 3), ((0, True), 1), ((0, True, -1), 1), ((2, 2, 9), 1),
    ((0, 1, None), 2), ((0, 1, [2]), 2), ((5, 1, 0), 0), (tuple(range(1000)), 3),
)


def given(error, *lists):
    """Faults: each value of the lists raises the error with the whole value."""
    return [(value, error, "given", value) for values in lists for value in values]


def indexed(error, pairs):
    """Faults: each first value raises the error with the second one as its index."""
    return [(value, error, "index", index) for value, index in pairs]


def lined(pairs):
    """Faults: each first value raises InvalidText with the second one as its line."""
    return [(value, InvalidText, "line", line) for value, line in pairs]


def without(values, *right):
    """Values other than those that are right, which are not compared: some values let nobody compare them."""
    known = [repr(each) for each in right]
    return tuple(value for value in values if repr(value) not in known)


TRIAL_FAULTS = given(InvalidTrial, STRANGE, WRONG_TRIALS)
WORLD_FAULTS = given(InvalidWorld, STRANGE, WRONG_WORLDS)
QUESTION_FAULTS = given(InvalidQuestion, STRANGE, WRONG_QUESTIONS)
TELLING_FAULTS = given(InvalidTelling, STRANGE, WRONG_TELLINGS)
LOT_FAULTS = indexed(InvalidLot, WRONG_LOTS)


class CallChecks:
    """What is so of all functions of a module; under it stands what the functions and their arguments are.

    `functions` has triples of a module, a name and the parameters; `rights` dicts of right arguments, by parameter;
    `faults` the faults of each parameter (quadruples of a value, the error, its attribute and what this is told);
    `whatever` the parameters for which any value is let, with what may be told for strange ones; `lasts` tuples of
    a function's name, its arguments, and the error that is raised behind all others, its attribute and that value.
    """

    functions = ()
    rights = ()
    faults = {}
    whatever = {}
    lasts = ()

    def right_calls(self):
        for right in self.rights:
            for module, name, parameters in self.functions:
                yield getattr(module, name), parameters, {each: right[each] for each in parameters}

    def last_calls(self):
        known = {name: (getattr(module, name), parameters) for module, name, parameters in self.functions}
        for name, arguments, error, attribute, told in self.lasts:
            function, parameters = known[name]
            yield function, parameters, arguments, (None, error, attribute, told)

    def check(self, function, parameters, arguments, fault):
        _, wanted, attribute, told = fault
        for call in (lambda: function(*[arguments[name] for name in parameters]),
                     lambda: function(**{name: arguments[name] for name in reversed(parameters)})):
            with self.assertRaises(TrialError) as caught:
                call()
            self.assertIs(caught.exception.__class__, wanted, (function, arguments))
            if attribute is None:
                self.assertEqual(vars(caught.exception), {})
            else:
                self.assertIs(getattr(caught.exception, attribute), told, (function, arguments))

    def test_each_argument_wrong_by_itself(self):
        for function, parameters, right in self.right_calls():
            for name in parameters:
                for fault in self.faults.get(name, ()):
                    self.check(function, parameters, {**right, name: fault[0]}, fault)

    def test_several_wrong_at_once(self):
        for function, parameters, right in self.right_calls():
            checked = [name for name in parameters if name in self.faults]
            for many in range(2, len(checked) + 1):
                for names in itertools.combinations(checked, many):
                    for step in range(24):
                        chosen = [self.faults[name][step * (5 + at) % len(self.faults[name])]
                                  for at, name in enumerate(names)]
                        wrong = {name: fault[0] for name, fault in zip(names, chosen)}
                        self.check(function, parameters, {**right, **wrong}, chosen[0])

    def test_last_is_behind_everything_else(self):
        for function, parameters, arguments, last in self.last_calls():
            self.check(function, parameters, arguments, last)
            for name in parameters:
                for fault in self.faults.get(name, ())[::3]:
                    self.check(function, parameters, {**arguments, name: fault[0]}, fault)
                if name in self.whatever:
                    for value in STRANGE:
                        self.check(function, parameters, {**arguments, name: value}, last)

    def test_whatever_is_let_raises_nothing(self):
        for function, parameters, right in self.right_calls():
            for name in parameters:
                for value in STRANGE + WRONG_WORLDS[:5] + WRONG_QUESTIONS[:5] if name in self.whatever else ():
                    self.assertIn(function(**{**right, name: value}), self.whatever[name])

    def test_whatever_is_let_is_looked_at_behind_the_others(self):
        for function, parameters, right in self.right_calls():
            for name in [name for name in parameters if name in self.whatever]:
                for other in [other for other in parameters if other in self.faults]:
                    for value in STRANGE[:8]:
                        fault = self.faults[other][0]
                        self.check(function, parameters, {**right, other: fault[0], name: value}, fault)

    def test_parameters_and_where_they_are_defined(self):
        for module, name, parameters in self.functions:
            function = getattr(module, name)
            self.assertEqual(tuple(inspect.signature(function).parameters), parameters)
            self.assertEqual(function.__module__, module.__name__)

    def test_by_position_and_by_name_alike(self):
        for function, parameters, right in self.right_calls():
            by_position = function(*[right[name] for name in parameters])
            by_name = function(**{name: right[name] for name in reversed(parameters)})
            mixed = function(right[parameters[0]], **{name: right[name] for name in parameters[1:]})
            self.assertEqual(repr(by_position), repr(by_name))
            self.assertEqual(repr(by_position), repr(mixed))

    def test_equal_calls_return_equal_results(self):
        for function, parameters, right in self.right_calls():
            first = function(*[right[name] for name in parameters])
            # The same values made anew.
            again = function(*[eval(repr(right[name])) for name in parameters])
            self.assertEqual(repr(first), repr(again))

    def test_no_argument_is_changed(self):
        wrong = ([[[0, 1]]], {"a": [1]}, [row(1, 1), [[1, 1]]], ([row(1)], row(1), [0]), (list(row(1, 0)), [1]))
        for function, parameters, right in self.right_calls():
            for name in [name for name in parameters if name in self.faults or name in self.whatever]:
                for value in wrong:
                    ahead = repr(value)
                    try:
                        function(**{**right, name: value})
                    except TrialError:
                        pass
                    self.assertEqual(repr(value), ahead)
