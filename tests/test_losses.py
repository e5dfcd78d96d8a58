"""Lots that spoil a question, the least ones, and what it outlasts (point 21)."""

import random
import unittest
from itertools import combinations

from tests.console_sums import own_spoils
from tests.sums import table_trial
from tests.support import own_is_fair, row, some_question, trial
from trialground.errors import InvalidNumber, NotTold
from trialground.losses import does_spoil, outlasting, spoiling, strength

RAMP = trial([(1, 0), (1, 1), (1, 2)])
PLOTS = trial([(1, 0), (0, 1), (1, 1)])
BEDS = trial([(1,), (0,), (1,), (3,)], [1, 2, 1, 5], (0, 0, 2, 2))


def lots(plots):
    return [lot for size in range(1, plots + 1) for lot in combinations(range(plots), size)]


def loss_cases(seed, many, most):
    """Trials of up to so many plots with told questions, noughts among them."""
    rng = random.Random(seed)
    k = 0
    while many:
        k += 1
        made = table_trial(rng, 1 + k % 5, rng.randint(1, most), k % 2 == 0)
        question = row(*[0] * len(made[0][0])) if k % 17 == 0 else some_question(rng, made)
        if not own_spoils(made, question, ()):
            many -= 1
            yield made, question


class Spoil(unittest.TestCase):

    def test_by_hand(self):
        self.assertIs(does_spoil(RAMP, row(1, 0), (0,)), False)
        self.assertIs(does_spoil(RAMP, row(1, 0), (1, 2)), False)
        self.assertIs(does_spoil(RAMP, row(0, 1), (1, 2)), True)
        self.assertIs(does_spoil(RAMP, row(1, 0), (0, 1, 2)), True)
        self.assertIs(does_spoil(RAMP, row(0, 0), (0, 1, 2)), False)
        # The third plot and the fourth one tell it by themselves, as do the first two.
        self.assertIs(does_spoil(BEDS, row(1), (0, 1)), False)
        self.assertIs(does_spoil(BEDS, row(1), (1, 2)), True)
        self.assertIs(does_spoil(BEDS, row(1), (3,)), False)

    def test_exactly_if_the_other_plots_do_not_tell_it(self):
        met = {True: 0, False: 0}
        for made, question in loss_cases(1, 120, 6):
            for lot in lots(len(made[0])):
                spoils = own_spoils(made, question, lot)
                met[spoils] += 1
                self.assertIs(does_spoil(made, question, lot), spoils)
        self.assertGreater(min(met.values()), 300)

    def test_ten_plots(self):
        rng = random.Random(2)
        for made, question in loss_cases(2, 60, 10):
            for lot in rng.sample(lots(len(made[0])), min(12, 2 ** len(made[0]) - 1)):
                self.assertIs(does_spoil(made, question, lot), own_spoils(made, question, lot))


class Spoiling(unittest.TestCase):

    def check(self, made, question):
        """The least lots and the strength, against all lots by the test's own equations."""
        spoil = [lot for lot in lots(len(made[0])) if own_spoils(made, question, lot)]
        least = [lot for lot in spoil if not any(set(each) < set(lot) for each in spoil)]
        told = spoiling(made, question)
        self.assertIs(told.__class__, tuple)
        self.assertEqual(told, tuple(sorted(least)))
        self.assertEqual(told, tuple(tuple(sorted(set(lot))) for lot in told))
        self.assertEqual(strength(made, question), min(map(len, least), default=len(made[0]) + 1) - 1)
        return len(least)

    def test_by_hand(self):
        self.assertEqual(spoiling(RAMP, row(1, 0)), ((0, 1), (0, 2)))
        self.assertEqual(spoiling(RAMP, row(1, 1)), ((0, 1), (1, 2)))
        self.assertEqual(spoiling(RAMP, row(3, 1)), ((0, 1), (0, 2), (1, 2)))
        self.assertEqual(spoiling(BEDS, row(1)), ((0, 2), (0, 3), (1, 2), (1, 3)))
        self.assertEqual(spoiling(RAMP, row(0, 0)), ())
        self.assertEqual(spoiling(trial([(0,)]), row(0)), ())
        self.assertEqual(spoiling(trial([(2,)]), row(5)), ((0,),))
        self.assertEqual(spoiling(trial([(2,), (0,), (1,)]), row(5)), ((0, 2),))
        self.assertEqual(spoiling(trial([(1,)] * 10), row(1)), (tuple(range(10)),))
        self.assertEqual(spoiling(trial([(1,)] * 10), row(0)), ())
        self.assertEqual(strength(trial([(1,)] * 10), row(1)), 9)
        self.assertEqual(strength(trial([(1,)] * 10), row(0)), 10)
        self.assertEqual(strength(trial([(2,)]), row(1)), 0)
        self.assertEqual(strength(BEDS, row(1)), 1)

    def test_ascending_also_where_lots_are_of_unlike_sizes(self):
        made = trial([(1, 0), (1, 0), (0, 1), (0, 1), (0, 1)])
        self.assertEqual(spoiling(made, row(1, 1)), ((0, 1), (2, 3, 4)))
        made = trial([(0, 1), (0, 1), (0, 1), (1, 0)])
        self.assertEqual(spoiling(made, row(1, 1)), ((0, 1, 2), (3,)))

    def test_against_all_lots(self):
        met = 0
        for made, question in loss_cases(3, 250, 6):
            met += self.check(made, question)
        self.assertGreater(met, 400)

    def test_plots_told_twice(self):
        rng = random.Random(4)
        for k in range(40):
            rows, spreads, blocks = table_trial(rng, 1 + k % 4, rng.randint(1, 3), k % 2 == 0)
            made = (rows * 2, spreads * 2, blocks * 2)
            question = some_question(rng, made)
            if not own_spoils(made, question, ()):
                self.check(made, question)

    def test_more_plots(self):
        for made, question in loss_cases(5, 14, 8):
            self.check(made, question)


class Outlasting(unittest.TestCase):

    def check(self, made, question, many):
        """Fair tellings such that each lot is out of the plots of one of them, or None."""
        plots = range(len(made[0]))
        told = outlasting(made, question, many)
        spoiled = any(own_spoils(made, question, lot) for lot in lots(len(plots)) if len(lot) <= many)
        self.assertEqual(told is None, spoiled)
        self.assertEqual(strength(made, question) < many, spoiled)
        if told is None:
            return False
        self.assertIs(told.__class__, tuple)
        self.assertGreaterEqual(len(told), 1)
        for telling in told:
            self.assertEqual((telling.__class__, len(telling)), (tuple, len(plots)))
            self.assertTrue(own_is_fair(made, question, telling))
        for lot in combinations(plots, many):
            self.assertTrue(any(all(telling[plot] == (0, 1) for plot in lot) for telling in told))
        return True

    def test_by_hand(self):
        self.assertTrue(self.check(RAMP, row(0, 1), 0))
        self.assertTrue(self.check(RAMP, row(0, 1), 1))
        self.assertIsNone(outlasting(RAMP, row(0, 1), 2))
        self.assertIsNone(outlasting(RAMP, row(0, 1), 3))
        self.assertEqual(outlasting(RAMP, row(0, 0), 3), (row(0, 0, 0),))
        self.assertEqual(outlasting(trial([(2,)]), row(1), 0), (row("1/2"),))
        self.assertIsNone(outlasting(trial([(2,)]), row(1), 1))
        self.assertTrue(self.check(BEDS, row(1), 1))
        self.assertIsNone(outlasting(BEDS, row(1), 2))

    def test_each_number_up_to_that_of_plots(self):
        met = {True: 0, False: 0}
        for made, question in loss_cases(6, 120, 6):
            for many in range(len(made[0]) + 1):
                met[self.check(made, question, many)] += 1
            for many in (-1, len(made[0]) + 1):
                self.assertRaises(InvalidNumber, outlasting, made, question, many)
        self.assertGreater(min(met.values()), 150)

    def test_ten_plots(self):
        made = trial([(k * k, k, 1) for k in range(10)])
        told = outlasting(made, row(0, 1, 0), 7)
        for lot in combinations(range(10), 7):
            self.assertTrue(any(all(telling[plot] == (0, 1) for plot in lot) for telling in told))
        self.assertTrue(all(own_is_fair(made, row(0, 1, 0), telling) for telling in told))
        self.assertEqual(strength(made, row(0, 1, 0)), 7)
        self.assertIsNone(outlasting(made, row(0, 1, 0), 8))


class Told(unittest.TestCase):

    def test_not_told(self):
        for made, question in ((trial([(1, 1), (1, 1)]), row(1, 0)), (trial([(0,)]), row(1)), (BEDS[:2] + ((0, 1, 2, 3),), row(1))):
            self.assertRaises(NotTold, does_spoil, made, question, (0,))
            self.assertRaises(NotTold, spoiling, made, question)
            self.assertRaises(NotTold, strength, made, question)
            for many in range(len(made[0]) + 1):
                self.assertRaises(NotTold, outlasting, made, question, many)


if __name__ == "__main__":
    unittest.main()
