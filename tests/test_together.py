"""Trials put together, without their blocks, and with a plot more (points 14 and 15)."""

import random
import unittest
from fractions import Fraction

from tests.sums import (is_nowhere_below_by_minors, matrix_of, minus_matrix, numbers, own_block_mean, own_hefts,
                        own_least_spread, own_solution, own_sum_of_squares, own_table, plots_by_block, plus_matrix,
                        product, table_from, table_trial, table_trials)
from tests.support import cases, number, pair, row, some_row, trial
from trialground.best import least_spread
from trialground.errors import InvalidRows, NotTold, Unfit
from trialground.tables import table_of
from trialground.together import apart, fall, square_of, together, unblocked, with_plot
from trialground.trials import is_trial
from trialground.two import is_at_least_as_good

FEW = trial([(1, 0), (0, 1)])
BEDS = trial([(1,), (0,), (1,)], [1, 2, 1], (0, 0, 1))


def of_plots(many, blocks=()):
    return trial([(k, 1) for k in range(many)], None, blocks)


def pairs(seed, many):
    """Pairs of trials of as many unknowns, with blocks or without, that may be too many together."""
    rng = random.Random(seed)
    for k in range(many):
        with_blocks = k % 2 == 0
        yield tuple(table_trial(rng, 1 + k % 5, rng.randint(1, rng.choice((5, 8))), with_blocks) for _ in range(2))


class Joined(unittest.TestCase):

    def unfit(self, function, one, other, told):
        with self.assertRaises(Unfit) as caught:
            function(one, other)
        self.assertEqual(caught.exception.given, told)

    def test_by_hand(self):
        one, other = of_plots(2, (0, 2)), of_plots(3, (1, 0, 0))
        self.assertEqual(apart(one, other), (one[0] + other[0], row(1, 1, 1, 1, 1), (0, 2, 4, 3, 3)))
        self.assertEqual(together(one, other), (one[0] + other[0], row(1, 1, 1, 1, 1), (0, 2, 1, 0, 0)))
        self.assertEqual(apart(FEW, FEW), (FEW[0] * 2, FEW[1] * 2, ()))
        self.assertEqual(together(FEW, FEW), (FEW[0] * 2, FEW[1] * 2, ()))
        self.assertEqual(apart(BEDS, BEDS)[1], row(1, 2, 1, 1, 2, 1))

    def test_the_trials_and_their_tables(self):
        met = {True: 0, False: 0}
        for one, other in pairs(1, 240):
            plots = len(one[0]) + len(other[0])
            step = max(one[2], default=-1) + 1
            moved = tuple(block + step for block in other[2])
            for function, blocks in ((apart, moved), (together, other[2])):
                if plots > 10:
                    self.unfit(function, one, other, plots)
                elif max(blocks, default=0) > 4:
                    self.unfit(function, one, other, max(blocks))
                else:
                    made = function(one, other)
                    self.assertEqual(made, (one[0] + other[0], one[1] + other[1], one[2] + blocks))
                    self.assertIs(is_trial(made), True)
                    self.check_table(made, one, other, function)
                    met[function is apart] += 1
        self.assertGreater(min(met.values()), 60)

    def check_table(self, made, one, other, function):
        both = plus_matrix(own_table(one), own_table(other))
        if function is apart or not one[2]:
            self.assertEqual(matrix_of(table_of(made)), both)
        else:
            self.assertTrue(is_nowhere_below_by_minors(minus_matrix(matrix_of(table_of(made)), both)))
        self.assertIs(is_at_least_as_good(made, one), True)
        self.assertIs(is_at_least_as_good(made, other), True)

    def test_together_may_tell_more_than_apart(self):
        one, other = trial([(1,)], [1], (0,)), trial([(0,)], [1], (0,))
        self.assertEqual(table_of(apart(one, other)), (row(0),))
        self.assertEqual(table_of(together(one, other)), (row("1/2"),))

    def test_just_10_plots_are_let(self):
        for function in (apart, together):
            for many in range(1, 10):
                self.assertEqual(len(function(of_plots(many), of_plots(10 - many))[0]), 10)
                self.unfit(function, of_plots(many), of_plots(11 - many), 11)
            self.unfit(function, of_plots(10), of_plots(10), 20)

    def test_just_block_4_is_let(self):
        for last in range(5):
            for first in range(5):
                one, other = of_plots(1, (first,)), of_plots(2, (0, last))
                if first + 1 + last <= 4:
                    self.assertEqual(apart(one, other)[2], (first, first + 1, first + 1 + last))
                else:
                    self.unfit(apart, one, other, first + 1 + last)
                self.assertEqual(together(one, other)[2], (first, 0, last))

    def test_what_is_unfit_first(self):
        # Other unknowns, just one with blocks, too many plots, too great a block.
        unlike, plain, blocked = trial([(1,)] * 9, None, (4,) * 9), of_plots(9), of_plots(9, (4,) * 9)
        for function in (apart, together):
            self.unfit(function, plain, unlike, 1)
            self.unfit(function, unlike, plain, 2)
            self.unfit(function, blocked, unlike, 1)
            for one, other in ((plain, blocked), (blocked, plain), (FEW, of_plots(1, (0,))), (of_plots(1, (0,)), FEW)):
                with self.assertRaises(Unfit) as caught:
                    function(one, other)
                self.assertIs(caught.exception.given, other)
            self.unfit(function, blocked, blocked, 18)
        self.unfit(apart, of_plots(5, (4,) * 5), of_plots(5, (4, 0, 0, 0, 0)), 9)
        self.unfit(apart, of_plots(5, (4,) * 5), of_plots(6, (4, 0, 0, 0, 0, 0)), 11)


class Unblocked(unittest.TestCase):

    def test_the_trial_and_its_table(self):
        for made in table_trials(2, 150):
            plain = unblocked(made)
            self.assertEqual(plain, (made[0], made[1], ()))
            difference = minus_matrix(matrix_of(table_of(plain)), own_table(made))
            self.assertTrue(is_nowhere_below_by_minors(difference))
            self.assertEqual(any(map(any, difference)), table_of(plain) != table_of(made))
            self.assertIs(is_at_least_as_good(plain, made), True)

    def test_by_hand(self):
        self.assertEqual(unblocked(BEDS), (BEDS[0], BEDS[1], ()))
        self.assertEqual(unblocked(FEW), FEW)
        self.assertEqual(table_of(unblocked(BEDS)), (row(2),))


def own_square(of_trial, plot):
    """The square that point 15 tells, with Python's fractions; None."""
    line, spread, block = plot
    heft = 1 / number(spread)
    if block is None:
        return heft, numbers(line)
    plots = plots_by_block(of_trial).get(block)
    if plots is None:
        return None
    total = sum(own_hefts(of_trial)[p] for p in plots)
    mean = own_block_mean(of_trial, block)
    return heft * total / (heft + total), [a - b for a, b in zip(numbers(line), mean)]


def some_plot(rng, of_trial):
    """A plot more: of any row, or of one of the trial, with a spread that is small, great or neither."""
    rows, _, blocks = of_trial
    line = rng.choice(rows) if rng.random() < 0.3 else some_row(rng, len(rows[0]), 2)
    spread = pair(rng.choice((Fraction(1), Fraction(3, 2), Fraction(1, 10 ** 9), Fraction(10 ** 30, 7))))
    block = None if not blocks else rng.choice(blocks) if rng.random() < 0.6 else rng.randrange(5)
    return (line, spread, block)


class PlotMore(unittest.TestCase):

    def test_by_hand(self):
        self.assertEqual(with_plot(FEW, (row(1, 1), (2, 1), None)), trial([(1, 0), (0, 1), (1, 1)], [1, 1, 2]))
        self.assertEqual(with_plot(BEDS, (row(7), (1, 2), 4)), trial([(1,), (0,), (1,), (7,)], [1, 2, 1, "1/2"], (0, 0, 1, 4)))
        self.assertEqual(square_of(FEW, (row(1, 1), (2, 1), None)), ((1, 2), row(1, 1)))
        # Block 0 has hefts 1 and 1/2, the mean 2/3; block 1 the heft 1, the mean 1.
        self.assertEqual(square_of(BEDS, (row(2), (1, 1), 0)), ((3, 5), row("4/3")))
        self.assertEqual(square_of(BEDS, (row(2), (1, 3), 1)), ((3, 4), row(1)))
        self.assertIsNone(square_of(BEDS, (row(2), (1, 1), 2)))
        self.assertIsNone(square_of(trial([(1,)], [1], (3,)), (row(2), (1, 1), 0)))
        self.assertEqual(fall(FEW, row(1, 0), (row(1, 0), (1, 1), None)), (1, 2))
        self.assertEqual(fall(FEW, row(1, 0), (row(0, 1), (1, 1), None)), (0, 1))
        self.assertEqual(fall(BEDS, row(1), (row(2), (1, 3), 4)), (0, 1))

    def test_the_table_grows_by_just_the_square(self):
        rng = random.Random(3)
        met = {True: 0, False: 0}
        for made in table_trials(3, 300):
            plot = some_plot(rng, made)
            square, own = square_of(made, plot), own_square(made, plot)
            self.assertEqual(square is None, own is None)
            met[own is None] += 1
            many = len(made[0][0])
            grown = own_table(made)
            if own is not None:
                worth, line = own
                self.assertEqual(square, (pair(worth), tuple(pair(part) for part in line)))
                grown = plus_matrix(grown, own_sum_of_squares(many, (square,)))
            if len(made[0]) < 10:
                more = with_plot(made, plot)
                blocks = made[2] + (() if plot[2] is None else (plot[2],))
                self.assertEqual(more, (made[0] + (plot[0],), made[1] + (plot[1],), blocks))
                self.assertEqual(table_of(more), table_from(grown))
                self.assertIs(is_at_least_as_good(more, made), True)
        self.assertGreater(min(met.values()), 20)

    def test_fall_is_what_the_least_spread_falls_by(self):
        rng = random.Random(4)
        met = {"falls": 0, "stays": 0, "untold": 0}
        for made, question in cases(5, 500):
            plot = some_plot(rng, made)
            ahead = own_least_spread(made, question)
            if ahead is None:
                self.assertRaises(NotTold, fall, made, question, plot)
                met["untold"] += 1
            elif len(made[0]) < 10:
                behind = own_least_spread(with_plot(made, plot), question)
                told = fall(made, question, plot)
                self.assertEqual(told, pair(ahead - behind))
                self.assertEqual(number(least_spread(made, question)) - number(told), behind)
                met["falls" if behind < ahead else "stays"] += 1
        self.assertGreater(min(met.values()), 50)

    def test_rows_that_the_trial_does_not_tell(self):
        # They can be asked for nothing that was told without them.
        made = trial([(1, 0, 0), (0, 1, 0)])
        for line in (row(0, 0, 1), row(5, 1, "-1/3")):
            for spread in ((1, 1), (1, 10 ** 9)):
                self.assertEqual(fall(made, row(2, 3, 0), (line, spread, None)), (0, 1))
        self.assertRaises(NotTold, fall, made, row(0, 0, 1), (row(0, 0, 1), (1, 1), None))

    def test_a_trial_of_10_plots(self):
        for made, plot in ((of_plots(10), (row(11, 1), (1, 1), None)), (of_plots(10, (4,) * 10), (row(11, 1), (1, 1), 4))):
            with self.assertRaises(Unfit) as caught:
                with_plot(made, plot)
            self.assertEqual(caught.exception.given, 11)
            # What it would add is told all the same.
            worth, line = own_square(made, plot)
            self.assertEqual(square_of(made, plot), (pair(worth), tuple(pair(part) for part in line)))
            grown = plus_matrix(own_table(made), own_sum_of_squares(2, (square_of(made, plot),)))
            ahead, asked = own_least_spread(made, row(1, 0)), numbers(row(1, 0))
            self.assertEqual(fall(made, row(1, 0), plot), pair(ahead - product(own_solution(grown, asked), asked)))
        nine = with_plot(of_plots(9), (row(1, 1), (1, 1), None))
        self.assertEqual(len(nine[0]), 10)

    def test_no_plot_more(self):
        plain = ((row(1), (1, 1), None), (row(1, 1, 1), (1, 1), None), (row(1, 1), (0, 1), None), ((1, 1), (1, 1), None),
                 (row(1, 1), (-1, 1), None), (row(1, 1), (1, 1), 0), (row(1, 1), (1, 1), False), (row(1, 1), 1, None))
        blocked = ((row(1), (1, 1), 0), (row(1, 1), (0, 1), 0), (row(1, 1), (1, 1), None), (row(1, 1), (1, 1), 5),
                   (row(1, 1), (1, 1), -1), (row(1, 1), (1, 1), True), (row(1, 1), (1, 1), (0,)))
        for made, wrong in ((FEW, plain), (FEW[:2] + ((0, 3),), blocked)):
            for plot in wrong:
                for call in (lambda: with_plot(made, plot), lambda: square_of(made, plot),
                             lambda: fall(made, row(1, 0), plot)):
                    with self.assertRaises(InvalidRows) as caught:
                        call()
                    self.assertIsNone(caught.exception.index)


if __name__ == "__main__":
    unittest.main()
