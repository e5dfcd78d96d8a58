"""Tellings, fair ones, their spreads, and shifts (points 7 and 8, and "Told or shifted" of point 2)."""

import random
import unittest
from fractions import Fraction

from tests.support import (STRANGE, cases, fair_for_nothing, levels, number, own_answer, own_is_fair, own_is_shift,
                           own_spread, own_yields, pair, row, shifted, some_row, some_world, trial)
from trialground.tellings import is_fair, is_shift, spread_of, told_or_shift
from trialground.trials import is_world

SUM = trial([(1, 1), (2, 2)])
BEDS = trial([(1,), (0,), (1,)], [1, 2, 1], (0, 0, 1))
# Block 1 and 3 have no plots; the plots of block 4 tell the difference of both unknowns.
GAPS = trial([(1, 0), (0, 1), (3, 1)], [1, 1, 5], (4, 4, 0))


def scaled(world, factor):
    return tuple(tuple(pair(number(part) * factor) for part in each) for each in world)


class Fair(unittest.TestCase):

    def test_by_hand(self):
        self.assertIs(is_fair(SUM, row(1, 1), row(1, 0)), True)
        self.assertIs(is_fair(SUM, row(1, 1), row(-1, 1)), True)
        self.assertIs(is_fair(SUM, row(1, 1), row("1/3", "1/3")), True)
        self.assertIs(is_fair(SUM, row(1, 1), row(1, 1)), False)
        self.assertIs(is_fair(SUM, row(1, 0), row(1, 0)), False)

    def test_weights_of_each_block_come_to_0(self):
        unblocked = BEDS[:2] + ((),)
        self.assertIs(is_fair(unblocked, row(1), row(0, 0, 1)), True)
        self.assertIs(is_fair(BEDS, row(1), row(0, 0, 1)), False)
        self.assertIs(is_fair(BEDS, row(1), row(1, 0, 0)), False)
        self.assertIs(is_fair(BEDS, row(1), row(1, -1, 0)), True)
        # The sum over all plots is 0 here, but not that of each block.
        self.assertIs(is_fair(BEDS, row(0), row(1, 0, -1)), False)
        self.assertIs(is_fair(GAPS, row(1, -1), row(1, -1, 0)), True)
        self.assertIs(is_fair(GAPS, row(3, 1), row(0, 0, 1)), False)

    def test_against_own_sums(self):
        rng = random.Random(11)
        met = {True: 0, False: 0}
        for made, question in cases(11, 300):
            kind, told = told_or_shift(made, question)
            tries = [some_row(rng, len(made[0])), row(*[0] * len(made[0]))]
            if kind == "told":
                tries += [told] + [shifted(told, each, 3) for each in fair_for_nothing(made)]
                tries += [told[:-1] + (pair(number(told[-1]) + 1),)]
            for telling in tries:
                fair = own_is_fair(made, question, telling)
                self.assertIs(is_fair(made, question, telling), fair)
                met[fair] += 1
        self.assertGreater(min(met.values()), 100)

    def test_fair_exactly_if_so_in_all_worlds(self):
        rng = random.Random(12)
        for made, question in cases(12, 60):
            kind, told = told_or_shift(made, question)
            telling = told if kind == "told" else some_row(rng, len(made[0]))
            worlds = unit_worlds(made) + [some_world(rng, made) for _ in range(5)]
            makes = all(
                sum(number(w) * y for w, y in zip(telling, own_yields(made, world))) == own_answer(question, world)
                for world in worlds)
            self.assertIs(is_fair(made, question, telling), makes)


def unit_worlds(made):
    """The worlds in which just one number is 1."""
    unknowns, heights = len(made[0][0]), levels(made)
    worlds = []
    for at in range(unknowns + heights):
        flat = row(*[int(k == at) for k in range(unknowns + heights)])
        worlds.append((flat[:unknowns], flat[unknowns:]))
    return worlds


class Spread(unittest.TestCase):

    def test_by_hand(self):
        self.assertEqual(spread_of(BEDS, row(1, -1, 0)), (3, 1))
        self.assertEqual(spread_of(BEDS, row("1/2", "-1/3", "-2/5")), pair(Fraction(1, 4) + Fraction(2, 9) + Fraction(4, 25)))
        self.assertEqual(spread_of(SUM, row(0, 0)), (0, 1))

    def test_against_own_sums(self):
        rng = random.Random(13)
        for made, _ in cases(13, 200):
            telling = some_row(rng, len(made[0]))
            self.assertEqual(spread_of(made, telling), pair(own_spread(made, telling)))

    def test_great_numbers(self):
        made = ((row(1), row(1)), ((10 ** 399 + 1, 3), (1, 10 ** 399)), ())
        telling = ((-10 ** 399, 7), (10 ** 200 + 1, 10 ** 200))
        self.assertEqual(spread_of(made, telling), pair(own_spread(made, telling)))


class ToldOrShift(unittest.TestCase):

    def check(self, made, question):
        found = told_or_shift(made, question)
        self.assertIs(found.__class__, tuple)
        kind, value = found
        self.assertEqual(len(found), 2)
        if kind == "told":
            self.assertEqual(len(value), len(made[0]))
            self.assertTrue(own_is_fair(made, question, value))
        else:
            self.assertEqual(kind, "shift")
            self.assertIs(is_world(made, value), True)
            self.assertTrue(own_is_shift(made, question, value))
            self.assertIs(is_shift(made, question, value), True)
        return kind

    def test_by_hand(self):
        self.assertEqual(self.check(SUM, row(3, 3)), "told")
        self.assertEqual(self.check(SUM, row(3, 2)), "shift")
        self.assertEqual(self.check(BEDS, row("1/7")), "told")
        self.assertEqual(self.check(BEDS[:2] + ((0, 1, 2),), row(1)), "shift")
        self.assertEqual(self.check(GAPS, row(1, -1)), "told")
        self.assertEqual(self.check(GAPS, row(3, 1)), "shift")
        self.assertEqual(self.check(GAPS, row(1, 0)), "shift")

    def test_many(self):
        met = {"told": 0, "shift": 0}
        blocked = {"told": 0, "shift": 0}
        for made, question in cases(14, 500):
            kind = self.check(made, question)
            met[kind] += 1
            blocked[kind] += bool(made[2])
        self.assertGreater(min(met.values()), 50)
        self.assertGreater(min(blocked.values()), 20)

    def test_each_unknown_by_itself(self):
        for made, _ in cases(15, 80):
            unknowns = len(made[0][0])
            for at in range(unknowns):
                self.check(made, row(*[int(k == at) for k in range(unknowns)]))

    def test_noughts_are_told(self):
        for made, _ in cases(16, 80):
            self.assertEqual(self.check(made, row(*[0] * len(made[0][0]))), "told")

    def test_what_plots_make_is_told(self):
        rng = random.Random(17)
        for made, _ in cases(17, 80):
            rows = made[0]
            weights = [rng.randint(-3, 3) for _ in rows]
            question = row(*[sum(w * number(each[k]) for w, each in zip(weights, rows)) for k in range(len(rows[0]))])
            self.assertEqual(self.check((rows, made[1], ()), question), "told")

    def test_plots_told_twice_and_sums_of_others(self):
        made = trial([(1, 2, 0), (1, 2, 0), (0, 1, 1), (1, 3, 1), (2, 5, 1)])
        self.assertEqual(self.check(made, row(1, 1, -1)), "told")
        self.assertEqual(self.check(made, row(1, 0, 0)), "shift")
        self.assertEqual(self.check(made[:2] + ((0, 0, 0, 0, 0),), row(1, 2, 0)), "told")
        self.assertEqual(self.check(made[:2] + ((0, 0, 1, 1, 2),), row(1, 2, 0)), "told")
        self.assertEqual(self.check(made[:2] + ((0, 0, 1, 2, 3),), row(1, 2, 0)), "shift")

    def test_great_numbers(self):
        great = 10 ** 399 + 7
        made = (((((great, 3)), (1, 1)), ((great, 3), (1, great))), row(1, 1), ())
        self.assertEqual(self.check(made, ((0, 1), (-1, great - 1))), "told")
        twice = (((((great, 3)), (1, 1)), ((2 * great, 3), (2, 1))), row(1, 1), ())
        self.assertEqual(self.check(twice, ((0, 1), (-1, great - 1))), "shift")


class Shift(unittest.TestCase):

    def test_by_hand(self):
        self.assertIs(is_shift(SUM, row(1, 0), (row(1, -1), ())), True)
        self.assertIs(is_shift(SUM, row(1, 1), (row(1, -1), ())), False)
        self.assertIs(is_shift(SUM, row(1, 0), (row(0, 0), ())), False)
        self.assertIs(is_shift(SUM, row(1, 0), (row(1, 1), ())), False)
        self.assertIs(is_shift(SUM, row(1, 0), (row(1, -1), row(0))), False)
        lone = trial([(1,)], [1], (2,))
        self.assertIs(is_shift(lone, row(1), (row(1), row(0, 0, -1))), True)
        self.assertIs(is_shift(lone, row(1), (row(1), row(5, "1/2", -1))), True)
        self.assertIs(is_shift(lone, row(1), (row(1), row(-1, 0, 0))), False)
        self.assertIs(is_shift(lone, row(0), (row(1), row(0, 0, -1))), False)

    def test_multiples_and_others(self):
        met = 0
        for made, question in cases(18, 300):
            kind, shift = told_or_shift(made, question)
            if kind == "told":
                continue
            met += 1
            for factor in (1, 2, -1, Fraction(-3, 7), 10 ** 50):
                self.assertIs(is_shift(made, question, scaled(shift, factor)), True)
            self.assertIs(is_shift(made, question, scaled(shift, 0)), False)
            for part in range(2):
                for at in range(len(shift[part])):
                    self.check_otherwise(made, question, shift, part, at)
        self.assertGreater(met, 50)

    def check_otherwise(self, made, question, shift, part, at):
        """A shift with one number otherwise: still one or not, as own sums tell."""
        numbers = list(shift[part])
        numbers[at] = pair(number(numbers[at]) + 1)
        other = (tuple(numbers), shift[1]) if part == 0 else (shift[0], tuple(numbers))
        self.assertIs(is_shift(made, question, other), own_is_shift(made, question, other))

    def test_nothing_shifts_what_is_told(self):
        rng = random.Random(19)
        for made, question in cases(19, 150):
            if told_or_shift(made, question)[0] == "told":
                for world in [some_world(rng, made) for _ in range(3)] + unit_worlds(made):
                    self.assertIs(is_shift(made, question, world), False)

    def test_strange_values(self):
        shift = (row(1, -1), ())
        for value in STRANGE + (shift[0], shift[:1], list(shift), (list(shift[0]), ()), (shift[0], []), shift + ((),)):
            self.assertIs(is_shift(SUM, row(1, 0), value), False)
        for value in STRANGE:
            self.assertIs(is_shift(SUM, row(1, 0), (value, ())), False)
            self.assertIs(is_shift(SUM, row(1, 0), (row(1, -1)[:1] + (value,), ())), False)
        self.assertIs(is_shift(SUM, row(1, 0), (((1, True), (-1, 1)), ())), False)
        self.assertIs(is_shift(SUM, row(1, 0), (((2, 2), (-1, 1)), ())), False)


if __name__ == "__main__":
    unittest.main()
