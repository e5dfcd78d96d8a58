"""The table of a trial, and what it tells of questions (points 7 to 10 and 12)."""

import random
import unittest
from fractions import Fraction

from tests.sums import (matrix_of, numbers, own_block_mean, own_hefts, own_least_spread, own_solution, own_sum_at,
                        own_table, own_table_by_pairs, product, reordered, table_from, table_trial, table_trials,
                        times_row)
from tests.support import (cases, number, own_answer, own_is_fair, own_is_load, own_spread, own_yields, pair, row,
                           some_question, some_row, trial)
from trialground.best import least_spread
from trialground.errors import NotTold
from trialground.tables import spread_by_table, table_of, table_row

SCALE = trial([(1, 0), (0, 1), (1, 1)])
UNEVEN = trial([(1,), (1,)], [1, 4])
BEDS = trial([(1,), (0,), (1,)], [1, 2, 1], (0, 0, 1))
TWICE = trial([(1, 1), (1, 1)])


def told_of_row(of_trial, answer):
    """The telling and the world that point 12 makes of a row."""
    hefts, blocks = own_hefts(of_trial), of_trial[2]
    made = [product(line, answer) for line in matrix_of(of_trial[0])]
    levels = [Fraction(0)] * (max(blocks, default=-1) + 1)
    for block in set(blocks):
        levels[block] = -product(own_block_mean(of_trial, block), answer)
    ups = [levels[block] for block in blocks] if blocks else [Fraction(0)] * len(made)
    telling = tuple(pair(heft * (each + up)) for heft, each, up in zip(hefts, made, ups))
    return telling, (tuple(pair(part) for part in answer), tuple(pair(level) for level in levels))


class Table(unittest.TestCase):

    def test_by_hand(self):
        self.assertEqual(table_of(UNEVEN), (row("5/4"),))
        # The pair of block 0: 1 times 1/2 over 3/2. The third plot is alone in its block.
        self.assertEqual(table_of(BEDS), (row("1/3"),))
        self.assertEqual(table_of(BEDS[:2] + ((),)), (row(2),))
        self.assertEqual(table_of(trial([(1, 2), (3, 4)], ["1/10", "1/10"])), (row(100, 140), row(140, 200)))
        self.assertEqual(table_of(trial([(0, 0)])), (row(0, 0), row(0, 0)))
        self.assertEqual(table_of(trial([(2, 0), (0, 1)], [1, 1], (3, 3))), (row(2, -1), row(-1, "1/2")))

    def test_against_own_sums(self):
        blocked = 0
        for made in table_trials(1, 300):
            told = table_of(made)
            self.assertEqual(told, table_from(own_table(made)))
            if made[2]:
                blocked += 1
                self.assertEqual(told, table_from(own_table_by_pairs(made)))
        self.assertGreater(blocked, 100)

    def test_tuples_of_fractions_alike_to_both_sides(self):
        for made in table_trials(2, 120):
            told = table_of(made)
            many = len(made[0][0])
            self.assertIs(told.__class__, tuple)
            self.assertEqual([line.__class__ for line in told], [tuple] * many)
            self.assertEqual([len(line) for line in told], [many] * many)
            self.assertEqual(told, tuple(zip(*told)))

    def test_plots_alone_in_their_blocks_add_nothing(self):
        rng = random.Random(3)
        for unknowns in range(1, 6):
            for plots in range(1, 6):
                rows, spreads, _ = table_trial(rng, unknowns, plots, False)
                blocks = tuple(rng.sample(range(5), plots))
                nothing = (row(*[0] * unknowns),) * unknowns
                self.assertEqual(table_of((rows, spreads, blocks)), nothing)

    def test_like_plots_of_one_block_add_nothing(self):
        self.assertEqual(table_of(trial([(1, 2)] * 3, [1, 2, 3], (4, 4, 4))), (row(0, 0), row(0, 0)))

    def test_plots_twice_count_twice(self):
        for made in table_trials(4, 50):
            if len(made[0]) <= 5 and not made[2]:
                doubled = tuple(part * 2 for part in made)
                self.assertEqual(matrix_of(table_of(doubled)), [[2 * part for part in line] for line in own_table(made)])

    def test_another_order_of_plots_and_other_block_numbers(self):
        rng = random.Random(5)
        for made in table_trials(5, 200):
            order = rng.sample(range(len(made[0])), len(made[0]))
            self.assertEqual(table_of(reordered(made, order)), table_of(made))
            renamed = rng.sample(range(5), 5)
            other = made[:2] + (tuple(renamed[block] for block in made[2]),)
            self.assertEqual(table_of(other), table_of(made))

    def test_rows_moved_in_a_block_alike(self):
        # A level takes up what is added to all rows of its block.
        for made in table_trials(6, 100):
            if made[2]:
                moved = tuple(tuple(pair(number(part) + 7 * (block + 1)) for part in each)
                              for each, block in zip(made[0], made[2]))
                self.assertEqual(table_of((moved,) + made[1:]), table_of(made))

    def test_great_numbers(self):
        great = 10 ** 399 + 7
        made = (((((great, 3)), (1, great)), ((-1, 1), (2, 5))), ((1, great), (great, 2)), (0, 0))
        self.assertEqual(table_of(made), table_from(own_table(made)))
        self.assertEqual(table_of(made[:2] + ((),)), table_from(own_table(made[:2] + ((),))))


class Rows(unittest.TestCase):

    def check(self, made, question):
        """What is told of a question is right by the test's own sums; whether it is told."""
        told, least = table_row(made, question), spread_by_table(made, question)
        if own_solution(own_table(made), numbers(question)) is None:
            self.assertIsNone(told)
            self.assertIsNone(least)
            self.assertRaises(NotTold, least_spread, made, question)
            return False
        self.assertIs(told.__class__, tuple)
        self.assertEqual(len(told), len(question))
        self.assertEqual(times_row(own_table(made), numbers(told)), numbers(question))
        self.assertEqual(told, tuple(pair(number(part)) for part in told))
        self.assertEqual(least, pair(product(numbers(told), numbers(question))))
        self.assertEqual(least, least_spread(made, question))
        return True

    def test_by_hand(self):
        self.assertEqual(table_row(UNEVEN, row(5)), row(4))
        self.assertEqual(spread_by_table(UNEVEN, row(5)), (20, 1))
        self.assertEqual(spread_by_table(BEDS, row(1)), (3, 1))
        self.assertEqual(spread_by_table(TWICE, row(1, 1)), (1, 2))
        self.assertEqual(spread_by_table(TWICE, row(0, 0)), (0, 1))
        self.assertIsNone(table_row(TWICE, row(1, 0)))
        self.assertIsNone(spread_by_table(TWICE, row(1, 0)))
        self.assertIsNone(table_row(BEDS[:2] + ((0, 1, 0),), row(1)))

    def test_against_own_sums(self):
        met = {True: 0, False: 0}
        for made, question in cases(7, 400):
            met[self.check(made, question)] += 1
        self.assertGreater(min(met.values()), 50)

    def test_all_numbers_of_unknowns_and_plots(self):
        rng = random.Random(8)
        met = {True: 0, False: 0}
        for made in table_trials(8, 200):
            for question in (some_question(rng, made), row(*[0] * len(made[0][0]))):
                met[self.check(made, question)] += 1
        self.assertGreater(min(met.values()), 30)

    def test_noughts_are_told_with_0(self):
        for made in table_trials(9, 50):
            noughts = row(*[0] * len(made[0][0]))
            self.assertEqual(times_row(own_table(made), numbers(table_row(made, noughts))), numbers(noughts))
            self.assertEqual(spread_by_table(made, noughts), (0, 1))

    def test_the_telling_made_of_a_row(self):
        met = 0
        for made, question in cases(10, 300):
            told = table_row(made, question)
            if told is not None:
                telling, world = told_of_row(made, numbers(told))
                self.assertTrue(own_is_fair(made, question, telling))
                self.assertTrue(own_is_load(made, telling, world))
                self.assertEqual(pair(own_spread(made, telling)), spread_by_table(made, question))
                self.assertEqual(pair(own_answer(question, world)), spread_by_table(made, question))
                self.assertEqual(len(own_yields(made, world)), len(telling))
                met += bool(made[2])
        self.assertGreater(met, 50)

    def test_bounds_by_rows(self):
        rng = random.Random(11)
        met = {True: 0, False: 0}
        for made, question in cases(11, 300):
            least = spread_by_table(made, question)
            if least is None:
                continue
            for _ in range(4):
                z = numbers(some_row(rng, len(question)))
                asked, at = product(z, numbers(question)), own_sum_at(own_table(made), z)
                met[at > 0] += 1
                self.assertGreaterEqual(number(least) * at, asked ** 2)
                if at == 0:
                    self.assertEqual(asked, 0)
            told = numbers(table_row(made, question))
            self.assertEqual(own_sum_at(own_table(made), told), number(least))
        self.assertGreater(min(met.values()), 20)

    def test_great_numbers(self):
        great = 10 ** 399 + 7
        made = (((((great, 3)), (1, great)), ((-1, 1), (2, 5)), ((3, 1), (0, 1))), ((1, great), (great, 2), (1, 1)), ())
        self.assertTrue(self.check(made, ((1, great), (great, 1))))
        self.assertEqual(own_least_spread(made, row(1, 0)), number(spread_by_table(made, row(1, 0))))
        # What was told may be asked, whatever its size.
        self.assertTrue(self.check(made, table_row(made, ((1, great), (great, 1)))))


if __name__ == "__main__":
    unittest.main()
