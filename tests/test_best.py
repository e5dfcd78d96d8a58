"""The best telling, its loads, the least spread and the excess (point 9)."""

import random
import unittest
from fractions import Fraction

from tests.support import (STRANGE, cases, fair_for_nothing, number, own_answer, own_is_fair, own_is_load,
                           own_is_shift, own_spread, pair, row, shifted, some_row, some_world, trial)
from trialground.best import best_telling, excess, is_load, least_spread, load_of
from trialground.errors import NotTold, Unfit
from trialground.tellings import told_or_shift
from trialground.trials import is_world

SCALE = trial([(1, 0), (0, 1), (1, 1)])
# The second plot is four times as wide: it gets a quarter of the first one's weight.
UNEVEN = trial([(1,), (1,)], [1, 4])
BEDS = trial([(1,), (0,), (1,)], [1, 2, 1], (0, 0, 1))
TWICE = trial([(1, 1), (1, 1)])


def told_cases(seed, many):
    """Trials, questions and fair tellings for them, as the test's own sums show."""
    found = []
    for made, question in cases(seed, many):
        kind, telling = told_or_shift(made, question)
        if kind == "told" and own_is_fair(made, question, telling):
            found.append((made, question, telling))
    return found


class Best(unittest.TestCase):

    def test_by_hand(self):
        self.assertEqual(best_telling(SCALE, row(0, 1)), row("-1/3", "2/3", "1/3"))
        self.assertEqual(best_telling(UNEVEN, row(1)), row("4/5", "1/5"))
        self.assertEqual(best_telling(BEDS, row("1/2")), row("1/2", "-1/2", 0))
        self.assertEqual(best_telling(TWICE, row(0, 0)), row(0, 0))
        self.assertEqual(least_spread(UNEVEN, row(1)), (4, 5))
        self.assertEqual(least_spread(UNEVEN, row(-3)), (36, 5))
        self.assertEqual(least_spread(TWICE, row(0, 0)), (0, 1))
        self.assertEqual(least_spread(BEDS, row(1)), (3, 1))

    def test_fair_with_a_load(self):
        met = 0
        for made, question, _ in told_cases(21, 500):
            best, load = best_telling(made, question), load_of(made, question)
            self.assertEqual(len(best), len(made[0]))
            self.assertTrue(own_is_fair(made, question, best))
            self.assertIs(is_world(made, load), True)
            self.assertTrue(own_is_load(made, best, load))
            self.assertIs(is_load(made, best, load), True)
            met += bool(made[2])
        self.assertGreater(met, 50)

    def test_least_spread_is_the_answer_in_the_load(self):
        for made, question, _ in told_cases(22, 200):
            least = least_spread(made, question)
            self.assertEqual(least, pair(own_answer(question, load_of(made, question))))
            self.assertEqual(least, pair(own_spread(made, best_telling(made, question))))

    def test_other_tellings_have_more_by_the_spread_of_the_difference(self):
        met = 0
        for made, question, told in told_cases(23, 300):
            best, least = best_telling(made, question), number(least_spread(made, question))
            others = [told] + [shifted(best, each, Fraction(-2, 3)) for each in fair_for_nothing(made)]
            for other in others:
                self.assertTrue(own_is_fair(made, question, other))
                difference = tuple(pair(number(a) - number(b)) for a, b in zip(other, best))
                more = own_spread(made, difference)
                self.assertEqual(own_spread(made, other), least + more)
                self.assertEqual(excess(made, question, other), pair(more))
                self.assertEqual(more == 0, other == best)
                met += other != best
        self.assertGreater(met, 300)

    def test_unequal_spreads(self):
        rng = random.Random(24)
        for made, question, _ in told_cases(24, 100):
            spreads = tuple(pair(Fraction(rng.randint(1, 10 ** 6), rng.randint(1, 10 ** 6))) for _ in made[1])
            other = (made[0], spreads, made[2])
            best = best_telling(other, question)
            self.assertTrue(own_is_fair(other, question, best))
            self.assertTrue(own_is_load(other, best, load_of(other, question)))

    def test_great_numbers(self):
        great = 10 ** 399 + 9
        made = (((((great, 2)), (1, 3)), ((-1, great), (2, 1)), ((1, 1), (1, 1))), ((great, 1), (1, great), (5, 1)), ())
        question = ((great, 7), (-3, 5))
        best = best_telling(made, question)
        self.assertTrue(own_is_fair(made, question, best))
        self.assertTrue(own_is_load(made, best, load_of(made, question)))
        # What was told may be asked about again, whatever its size.
        self.assertEqual(excess(made, question, best), (0, 1))
        self.assertIs(is_load(made, best, load_of(made, question)), True)

    def test_not_told(self):
        met = 0
        for made, question in cases(25, 200):
            kind, found = told_or_shift(made, question)
            if kind == "shift":
                met += 1
                self.assertTrue(own_is_shift(made, question, found))
                for asked in (best_telling, load_of, least_spread):
                    self.assertRaises(NotTold, asked, made, question)
        self.assertGreater(met, 50)
        for asked in (best_telling, load_of, least_spread):
            self.assertRaises(NotTold, asked, TWICE, row(1, 0))
            self.assertRaises(NotTold, asked, BEDS[:2] + ((0, 1, 0),), row(3))
            self.assertRaises(NotTold, asked, trial([(0,)]), row(1))


class Load(unittest.TestCase):

    def test_by_hand(self):
        self.assertIs(is_load(UNEVEN, row("4/5", "1/5"), (row("4/5"), ())), True)
        self.assertIs(is_load(UNEVEN, row(4, 1), (row(4), ())), True)
        self.assertIs(is_load(UNEVEN, row(1, 1), (row(1), ())), False)
        self.assertIs(is_load(UNEVEN, row(4, 1), (row(1), ())), False)
        # In all plots of beds a level of -1 and a value of 1 is the same: many loads.
        self.assertIs(is_load(BEDS, row(1, -1, 0), (row(3), row(-2, -3))), True)
        self.assertIs(is_load(BEDS, row(1, -1, 0), (row(3), row(-2, 0))), False)
        self.assertIs(is_load(BEDS, row(1, -1, 0), (row(2), row(-1, -2))), False)
        # A telling need not be fair for anything to have a load.
        self.assertIs(is_load(BEDS, row(1, 1, 1), (row(-1), row(2, 2))), True)

    def test_another_load_by_what_no_plot_shows(self):
        self.assertIs(is_load(TWICE, row("1/2", "1/2"), (row("1/2", 0), ())), True)
        self.assertIs(is_load(TWICE, row("1/2", "1/2"), (row(-7, "15/2"), ())), True)
        self.assertIs(is_load(TWICE, row("1/2", "1/2"), (row(-7, 7), ())), False)
        gaps = trial([(1,), (0,)], [1, 1], (2, 2))
        load = load_of(gaps, row(1))
        for first in (0, 1, -5):
            self.assertIs(is_load(gaps, row(1, -1), (load[0], row(first, "1/2") + load[1][2:])), True)

    def test_against_own_sums(self):
        rng = random.Random(26)
        for made, question, told in told_cases(26, 150):
            best, load = best_telling(made, question), load_of(made, question)
            for telling in (best, told, some_row(rng, len(made[0])), row(*[0] * len(made[0]))):
                for world in (load, some_world(rng, made), (row(*[0] * len(load[0])), row(*[0] * len(load[1])))):
                    self.assertIs(is_load(made, telling, world), own_is_load(made, telling, world))

    def test_one_number_otherwise(self):
        for made, question, _ in told_cases(27, 100):
            best, load = best_telling(made, question), load_of(made, question)
            for part in range(2):
                for at in range(len(load[part])):
                    numbers = list(load[part])
                    numbers[at] = pair(number(numbers[at]) - 1)
                    other = (tuple(numbers), load[1]) if part == 0 else (load[0], tuple(numbers))
                    self.assertIs(is_load(made, best, other), own_is_load(made, best, other))

    def test_strange_values(self):
        telling, load = row(4, 1), (row(4), ())
        for value in STRANGE + (load[0], load[:1], list(load), (list(load[0]), ()), (load[0], []), load + ((),)):
            self.assertIs(is_load(UNEVEN, telling, value), False)
        for value in STRANGE:
            if value.__class__ is not tuple or len(value) > 0:
                self.assertIs(is_load(UNEVEN, telling, (load[0], value)), False)
            self.assertIs(is_load(UNEVEN, telling, (value, ())), False)
            self.assertIs(is_load(UNEVEN, telling, ((value,) * 2, ())), False)
        self.assertIs(is_load(UNEVEN, telling, (((8, 2),), ())), False)
        self.assertIs(is_load(UNEVEN, row(1, "1/4"), (((1, True),), ())), False)


class Excess(unittest.TestCase):

    def test_by_hand(self):
        self.assertEqual(excess(UNEVEN, row(1), row(1, 0)), (1, 5))
        self.assertEqual(excess(UNEVEN, row(1), row(0, 1)), (16, 5))
        self.assertEqual(excess(UNEVEN, row(1), row("4/5", "1/5")), (0, 1))
        self.assertEqual(excess(TWICE, row(0, 0), row(1, -1)), (2, 1))
        self.assertEqual(excess(BEDS, row(1), row(1, -1, 0)), (0, 1))

    def test_unfit_for_what_is_not_fair(self):
        for made, question, told in ((UNEVEN, row(1), row(1, 1)), (TWICE, row(1, 0), row(1, 0)),
                                     (BEDS, row(1), row(0, 0, 1)), (SCALE, row(0, 0), row(0, 0, 1))):
            with self.assertRaises(Unfit) as caught:
                excess(made, question, told)
            self.assertIs(caught.exception.given, told)


if __name__ == "__main__":
    unittest.main()
