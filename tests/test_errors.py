"""The classes of errors: what they keep, and what they stand under (points 3 and 4)."""

import unittest

from tests.support import Odd
from trialground import errors

ATTRIBUTES = {
    "given": ("InvalidTrial", "InvalidWorld", "InvalidQuestion", "InvalidTelling", "InvalidTable", "InvalidShares",
              "InvalidNumber", "InvalidName", "InvalidDeed", "Unlike", "Unfit"),
    "index": ("InvalidLot", "InvalidRows", "InvalidWords", "InvalidRuns", "InvalidBook", "InvalidLines"),
    "line": ("InvalidText",),
}
BARE = ("NotTold", "NothingToUndo", "NothingToRedo")
ALL = tuple(name for names in ATTRIBUTES.values() for name in names) + BARE
KEPT = (None, True, False, 0, -7, 10 ** 5000, "word", b"word", (), (1, (2, None)), [1, [2]], {"a": 1}, {1, 2}, Odd())


class Errors(unittest.TestCase):

    def test_attribute_is_kept_by_position_and_by_name(self):
        for attribute, names in ATTRIBUTES.items():
            for name in names:
                made = getattr(errors, name)
                for kept in KEPT:
                    for error in (made(kept), made(**{attribute: kept})):
                        self.assertIs(getattr(error, attribute), kept)
                        self.assertEqual(list(vars(error)), [attribute])

    def test_attribute_is_asked_for(self):
        for attribute, names in ATTRIBUTES.items():
            for name in names:
                made = getattr(errors, name)
                self.assertRaises(TypeError, made)
                self.assertRaises(TypeError, made, 1, 2)
                self.assertRaises(TypeError, lambda: made(other=1))

    def test_classes_without_attributes(self):
        for name in BARE + ("TrialError",):
            self.assertEqual(vars(getattr(errors, name)()), {})

    def test_each_stands_under_trial_error_alone(self):
        for name in ALL:
            made = getattr(errors, name)
            self.assertEqual(made.__bases__, (errors.TrialError,))
            for other in ALL:
                self.assertEqual(issubclass(made, getattr(errors, other)), name == other)

    def test_base_stands_under_value_error(self):
        self.assertEqual(errors.TrialError.__bases__, (ValueError,))
        self.assertEqual(errors.TrialError.__mro__[1:], (ValueError, Exception, BaseException, object))

    def test_each_is_raised_and_caught(self):
        for name in ALL:
            made = getattr(errors, name)
            for caught in (made, errors.TrialError, ValueError):
                with self.assertRaises(caught):
                    raise made() if name in BARE else made(None)

    def test_each_is_defined_here_and_no_other(self):
        found = [name for name, value in vars(errors).items() if isinstance(value, type)]
        self.assertEqual(sorted(found), sorted(ALL + ("TrialError",)))
        for name in found:
            self.assertEqual(getattr(errors, name).__module__, "trialground.errors")


if __name__ == "__main__":
    unittest.main()
