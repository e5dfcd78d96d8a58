"""Shares of work: share tables, own spreads, best ones of all, bettered ones, room (points 18 and 19)."""

import random
import unittest
from fractions import Fraction
from itertools import product as all_of

from tests.sums import determinant, matrix_of, numbers, own_rank, own_solution, product, table_from, table_trial
from tests.support import STRANGE, number, pair, row, trial
from trialground.errors import Unfit
from trialground.shares import are_shares, bettered, is_best, own_spreads, room, share_table

UNITS = trial([(1, 0), (0, 1)])
PLOTS = trial([(1, 0), (0, 1), (1, 1)])
LINE = trial([(1,), (2,), (-3,)], [1, 1, 9])


def own_share_table(of_trial, shares):
    rows = matrix_of(of_trial[0])
    unknowns = range(len(rows[0]))
    worths = [number(share) / number(spread) for share, spread in zip(shares, of_trial[1])]
    return [[sum(w * r[i] * r[j] for w, r in zip(worths, rows)) for j in unknowns] for i in unknowns]


def own_own_spreads(of_trial, shares):
    """The own spreads by the test's own equations; None."""
    matrix = own_share_table(of_trial, shares)
    if determinant(matrix) == 0:
        return None
    rows = matrix_of(of_trial[0])
    return [product(own_solution(matrix, line), line) / number(spread) for line, spread in zip(rows, of_trial[1])]


def some_shares(rng, plots, noughts=0.3):
    parts = [0 if rng.random() < noughts else rng.randint(1, 6) for _ in range(plots)]
    if not any(parts):
        parts[rng.randrange(plots)] = 1
    return tuple(pair(Fraction(part, sum(parts))) for part in parts)


def share_cases(seed, many):
    rng = random.Random(seed)
    for k in range(many):
        made = table_trial(rng, 1 + k % 5, rng.randint(1, 10), False)
        yield made, some_shares(rng, len(made[0]), rng.choice((0, 0.3, 0.6)))


def even(plots):
    return (pair(Fraction(1, plots)),) * plots


def signs(unknowns):
    """All rows of signs, each one or its negative once, so that their shares may be alike."""
    rows = [(1,) + rest for rest in all_of((1, -1), repeat=unknowns - 1)]
    return trial(rows)


BEST = [(trial([[int(i == j) for j in range(n)] for i in range(n)]), even(n)) for n in range(1, 6)]
BEST += [(signs(n), even(2 ** (n - 1))) for n in range(1, 5)]
BEST += [(PLOTS, even(3)), (trial([(1, 0), (0, 1), (1, 1), (1, 1)]), row("1/3", "1/3", "1/3", 0)),
         (trial([(1, 0), (0, 1), (1, 1), (1, 1)]), row("1/3", "1/3", "1/12", "1/4")), (LINE, row(0, 1, 0)),
         # Other spreads, as other units would have them: the rows are twice and three times as long.
         (trial([(2, 0), (0, 3), (2, 3)], [1, 1, 1]), even(3)),
         (trial([(2, 0), (0, 3), (1, 1)], [4, 9, 1]), even(3)),
         (trial([(1,), (2,), (3,)], [1, 4, 9]), row(0, "1/7", "6/7"))]


class AreShares(unittest.TestCase):

    def test_right_ones(self):
        for value in (row("1/3", "1/3", "1/3"), row(1, 0, 0), row(0, 0, 1), row("1/2", "1/2", 0), row("1/7", "2/7", "4/7")):
            self.assertIs(are_shares(PLOTS, value), True)
        for made, shares in share_cases(1, 60):
            self.assertIs(are_shares(made, shares), True)

    def test_a_share_below_0(self):
        for value in (row(-1, 1, 1), row(2, -1, 0), row("1/2", "3/4", "-1/4")):
            self.assertIs(are_shares(PLOTS, value), False)

    def test_another_sum_than_1(self):
        for value in (row(0, 0, 0), row(1, 1, 0), row("1/3", "1/3", 0), row("1/3", "1/3", "1/4"), row(1, 1, 1),
                      row("1/2", "1/2", Fraction(1, 10 ** 60))):
            self.assertIs(are_shares(PLOTS, value), False)

    def test_as_many_as_plots(self):
        for made in (UNITS, PLOTS, trial([(1,)]), trial([(1,)] * 10)):
            for many in range(1, 12):
                self.assertIs(are_shares(made, even(many)), many == len(made[0]))
        self.assertIs(are_shares(PLOTS, ()), False)
        self.assertIs(are_shares(UNITS, row("1/2", "1/2", 0)), False)

    def test_all_kinds_of_other_values(self):
        half = (1, 2)
        for value in STRANGE + ([half, half], (half, [1, 2]), (half, (2, 4)), (half, 1), (half, "1/2"), (True, False),
                                ((True, 1), (0, 1)), ((1, 1), (0, True)), ((1, 1), (0, 2)), ((1, 1), (False, 1)),
                                ((1, 1), 0), ((1, 1), None), ((-1, -2), half), (half, half, ())):
            self.assertIs(are_shares(UNITS, value), False)
        self.assertIs(are_shares(UNITS, (half, half)), True)


class Tables(unittest.TestCase):

    def test_by_hand(self):
        self.assertEqual(share_table(PLOTS, row("1/2", "1/4", "1/4")), (row("3/4", "1/4"), row("1/4", "1/2")))
        self.assertEqual(share_table(LINE, row("1/2", 0, "1/2")), (row(1),))
        self.assertEqual(share_table(PLOTS, row(0, 0, 1)), (row(1, 1), row(1, 1)))

    def test_against_own_sums(self):
        for made, shares in share_cases(2, 200):
            self.assertEqual(share_table(made, shares), table_from(own_share_table(made, shares)))


class OwnSpreads(unittest.TestCase):

    def test_by_hand(self):
        self.assertEqual(own_spreads(LINE, row(1, 0, 0)), row(1, 4, 1))
        self.assertEqual(own_spreads(LINE, row(0, 1, 0)), row("1/4", 1, "1/4"))
        self.assertEqual(own_spreads(UNITS, row("1/3", "2/3")), row(3, "3/2"))
        self.assertIsNone(own_spreads(UNITS, row(1, 0)))
        self.assertIsNone(own_spreads(trial([(0,), (0,)]), row("1/2", "1/2")))
        self.assertIsNone(own_spreads(trial([(1, 1), (2, 2), (1, 0)]), row("1/2", "1/2", 0)))

    def test_against_own_equations(self):
        met = {True: 0, False: 0, "without": 0}
        for made, shares in share_cases(3, 300):
            told, own = own_spreads(made, shares), own_own_spreads(made, shares)
            met[own is None] += 1
            if own is None:
                self.assertIsNone(told)
            else:
                self.assertIs(told.__class__, tuple)
                self.assertEqual(told, tuple(pair(each) for each in own))
                # Also of plots without a share.
                met["without"] += (0, 1) in shares
        self.assertGreater(min(met.values()), 50)

    def test_exactly_for_full_ones(self):
        for made, shares in share_cases(4, 200):
            shared = [line for line, share in zip(matrix_of(made[0]), shares) if share[0] > 0]
            self.assertEqual(own_spreads(made, shares) is not None, own_rank(shared) == len(made[0][0]))

    def test_shares_times_own_spreads_are_n(self):
        for made, shares in share_cases(5, 200):
            told = own_spreads(made, shares)
            if told is not None:
                many = len(made[0][0])
                self.assertEqual(product(numbers(shares), numbers(told)), many)
                self.assertGreaterEqual(max(numbers(told)), many)


class Best(unittest.TestCase):

    def test_best_ones(self):
        rng = random.Random(6)
        for made, shares in BEST:
            self.assertIs(is_best(made, shares), True)
            self.assertIsNone(bettered(made, shares))
            self.assertEqual(room(made, shares), (1, 1))
            for share, own in zip(shares, own_spreads(made, shares)):
                self.assertTrue(share == (0, 1) or own == (len(made[0][0]), 1))
            most = determinant(own_share_table(made, shares))
            for _ in range(20):
                other = some_shares(rng, len(made[0]))
                self.assertLessEqual(determinant(own_share_table(made, other)), most)

    def test_others_than_the_best_ones(self):
        rng = random.Random(7)
        met = {True: 0, False: 0}
        for made, shares in BEST:
            most = determinant(own_share_table(made, shares))
            for _ in range(20):
                other = some_shares(rng, len(made[0]), 0.2)
                best = determinant(own_share_table(made, other)) == most
                self.assertIs(is_best(made, other), best)
                met[best] += 1
        self.assertGreater(min(met.values()), 20)

    def test_exactly_if_no_own_spread_is_above_n(self):
        met = {True: 0, False: 0}
        for made, shares in list(share_cases(8, 300)) + BEST:
            own = own_own_spreads(made, shares)
            best = own is not None and max(own) <= len(made[0][0])
            met[best] += 1
            self.assertIs(is_best(made, shares), best)
        self.assertGreater(min(met.values()), 10)

    def test_an_own_spread_of_just_n_a_little_above_and_below(self):
        little = Fraction(1, 10 ** 40)
        for n in range(2, 6):
            units = [[int(i == j) for j in range(n)] for i in range(n)]
            shares = even(n) + row(0)
            for line, best in (([1] + [0] * (n - 1), True), ([1 - little] + [0] * (n - 1), True),
                               ([1 + little] + [0] * (n - 1), False), ([1, little] + [0] * (n - 2), False)):
                made = trial(units + [line])
                self.assertIs(is_best(made, shares), best)
                self.assertEqual(bettered(made, shares) is None, best)

    def test_shares_that_are_not_full(self):
        for made, shares in ((UNITS, row(1, 0)), (PLOTS, row(0, 0, 1)), (trial([(0,)]), row(1)),
                             (trial([(1, 1, 0), (0, 0, 1)]), row("1/2", "1/2"))):
            self.assertIs(is_best(made, shares), False)
            for function in (bettered, room):
                with self.assertRaises(Unfit) as caught:
                    function(made, shares)
                self.assertIs(caught.exception.given, shares)


class Bettered(unittest.TestCase):

    def check(self, made, shares):
        """What is told is as point 19 tells, by the test's own sums; the shares that are told, or None."""
        told, own, n = bettered(made, shares), own_own_spreads(made, shares), len(made[0][0])
        most = max(own)
        if most <= n:
            self.assertIsNone(told)
            return None
        plot = own.index(most)
        part = (most - n) / (n * (most - 1))
        wanted = [(1 - part) * number(share) + part * (p == plot) for p, share in enumerate(shares)]
        self.assertIs(told.__class__, tuple)
        self.assertEqual(told[0], tuple(pair(each) for each in wanted))
        self.assertIs(are_shares(made, told[0]), True)
        ahead, behind = [determinant(own_share_table(made, each)) for each in (shares, told[0])]
        self.assertEqual(number(told[1]), behind / ahead)
        self.assertGreater(behind, ahead)
        self.check_other_parts(made, shares, plot, part, behind)
        return told[0]

    def check_other_parts(self, made, shares, plot, part, most):
        """With any other part of the work for the plot the determinant is less."""
        for other in (part / 2, part * Fraction(99, 100), part + (1 - part) / 7):
            if other != part:
                moved = tuple(pair((1 - other) * number(share) + other * (p == plot)) for p, share in enumerate(shares))
                self.assertLess(determinant(own_share_table(made, moved)), most)

    def test_by_hand(self):
        # Own spreads 3 and 3/2: the part (3 - 2) / (2 2) of the work for the first plot.
        self.assertEqual(bettered(UNITS, row("1/3", "2/3")), (row("1/2", "1/2"), (9, 8)))
        # One unknown: all work goes to the plot with the greatest own spread.
        self.assertEqual(bettered(LINE, row(1, 0, 0)), (row(0, 1, 0), (4, 1)))
        self.assertEqual(bettered(LINE, row("1/2", 0, "1/2")), (row(0, 1, 0), (4, 1)))

    def test_the_first_plot_with_the_greatest_own_spread(self):
        made = trial([(1, 0), (0, 1), (1, 1), (1, 1), (-1, -1)])
        told, _ = bettered(made, row("1/2", "1/2", 0, 0, 0))
        self.assertEqual(told, row("1/3", "1/3", "1/3", 0, 0))
        # Own spreads 4/3, 4, 4 and 4/3: the part 1/3 for the second plot.
        told, _ = bettered(trial([(1, 0), (0, 1), (0, -1), (1, 0)]), row("1/4", "1/8", "1/8", "1/2"))
        self.assertEqual(told, row("1/6", "5/12", "1/12", "1/3"))

    def test_against_own_sums(self):
        met = 0
        for made, shares in share_cases(9, 250):
            if own_own_spreads(made, shares) is not None:
                met += self.check(made, shares) is not None
        self.assertGreater(met, 80)

    def test_step_by_step_again(self):
        met = 0
        for made, shares in share_cases(10, 25):
            if own_own_spreads(made, shares) is not None:
                for _ in range(3):
                    shares = self.check(made, shares)
                    if shares is None:
                        break
                    met += 1
        self.assertGreater(met, 10)

    def test_others_of_the_best_ones(self):
        rng = random.Random(11)
        for made, _ in BEST:
            for _ in range(5):
                shares = some_shares(rng, len(made[0]), 0)
                self.check(made, shares)


class Room(unittest.TestCase):

    def test_by_hand(self):
        self.assertEqual(room(UNITS, row("1/3", "2/3")), (9, 4))
        self.assertEqual(room(LINE, row(1, 0, 0)), (4, 1))
        self.assertEqual(room(UNITS, row("1/2", "1/2")), (1, 1))
        self.assertEqual(room(BEST[2][0], row("1/2", "1/4", "1/4")), (64, 27))

    def test_no_shares_exceed_it(self):
        rng = random.Random(12)
        met = 0
        for made, shares in share_cases(13, 200):
            own, n = own_own_spreads(made, shares), len(made[0][0])
            if own is None:
                continue
            told = number(room(made, shares))
            self.assertEqual(told, (max(own) / n) ** n)
            ahead = determinant(own_share_table(made, shares))
            others = [some_shares(rng, len(made[0])) for _ in range(4)]
            better = bettered(made, shares)
            if better is not None:
                met += 1
                others.append(better[0])
                self.assertLessEqual(number(better[1]), told)
            for other in others:
                self.assertLessEqual(determinant(own_share_table(made, other)), told * ahead)
        self.assertGreater(met, 50)


if __name__ == "__main__":
    unittest.main()
