"""Best shares for one question, barriers and their heights (point 20)."""

import random
import unittest
from fractions import Fraction

from tests.sums import matrix_of, numbers, own_rank, own_solution, product
from tests.support import STRANGE, fair_for_nothing, number, own_is_fair, pair, row, shifted, some_row, trial
from trialground.asked import best_shares, height, spread_with
from trialground.errors import NotTold
from trialground.shares import are_shares

RAMP = trial([(1, 0), (1, 1), (1, 2)])
UNITS = trial([(1, 0), (0, 1)])
SIGNS = trial([(1, 1), (1, -1)])


def asked_trial(rng, unknowns, plots):
    """A trial without blocks, spreads of 1; plots stand there twice, or are sums or parts of others."""
    rows = []
    while len(rows) < plots:
        kind = rng.randrange(7)
        if rows and kind < 3:
            one, other = rng.choice(rows), rng.choice(rows)
            parts = {0: (1, 0), 1: (1, -1), 2: (Fraction(1, 2), Fraction(1, 2))}[kind]
            rows.append(tuple(pair(parts[0] * number(a) + parts[1] * number(b)) for a, b in zip(one, other)))
        else:
            rows.append(some_row(rng, unknowns, rng.choice((1, 2, 5))))
    return (tuple(rows), row(*[1] * plots), ())


def asked_cases(seed, many):
    """Trials and questions that are told and not of noughts alone."""
    rng = random.Random(seed)
    k = 0
    while many:
        k += 1
        made = asked_trial(rng, 1 + k % 5, 10 if k % 4 == 0 else rng.randint(1, 10))
        if rng.random() < 0.4:
            question = tuple(pair(int(at == k % len(made[0][0]))) for at in range(len(made[0][0])))
        else:
            weights = [rng.choice((0, 0, 1, -1, 2)) for _ in made[0]]
            question = tuple(pair(product(weights, column)) for column in zip(*matrix_of(made[0])))
        if any(numbers(question)) and own_weights(made, question) is not None:
            many -= 1
            yield made, question


def own_weights(made, question):
    """Any fair telling, by the test's own equations; None."""
    return own_solution([list(column) for column in zip(*matrix_of(made[0]))], numbers(question))


def own_spread_with(made, question, shares):
    """The least spread by shares: over the shared plots alone, as a table of plots with other spreads; None."""
    rows, unknowns = matrix_of(made[0]), range(len(question))
    shared = [(number(share), line) for share, line in zip(shares, rows) if share[0] > 0]
    matrix = [[sum(share * line[i] * line[j] for share, line in shared) for j in unknowns] for i in unknowns]
    answer = own_solution(matrix, numbers(question))
    return None if answer is None else product(answer, numbers(question))


def own_height(made, question, barrier):
    """The height of a barrier by the test's own sums; None."""
    if any(abs(product(numbers(barrier), line)) > 1 for line in matrix_of(made[0])):
        return None
    return product(numbers(barrier), numbers(question))


def size(telling):
    return sum(abs(number(weight)) for weight in telling)


def by_size(telling):
    """The shares that point 20 makes of a telling."""
    return tuple(pair(abs(number(weight)) / size(telling)) for weight in telling)


def some_shares(rng, plots):
    parts = [rng.choice((0, 1, 2, 3)) for _ in range(plots)]
    parts[rng.randrange(plots)] += 1
    return tuple(pair(Fraction(part, sum(parts))) for part in parts)


class BestShares(unittest.TestCase):

    def check(self, made, question):
        """The barrier is one of height t, and the least spread by the shares is t t: so no others have less."""
        answer = best_shares(made, question)
        self.assertEqual((answer.__class__, len(answer)), (tuple, 3))
        least, shares, barrier = answer
        self.assertEqual((shares.__class__, barrier.__class__), (tuple, tuple))
        self.assertEqual(least, pair(number(least)))
        self.assertGreater(number(least), 0)
        self.assertEqual((len(shares), len(barrier)), (len(made[0]), len(question)))
        self.assertEqual(sum(numbers(shares)), 1)
        self.assertGreaterEqual(min(numbers(shares)), 0)
        self.assertIs(are_shares(made, shares), True)
        self.assertEqual(own_height(made, question, barrier), number(least))
        self.assertEqual(height(made, question, barrier), least)
        self.assertEqual(own_spread_with(made, question, shares), number(least) ** 2)
        self.assertEqual(spread_with(made, question, shares), pair(number(least) ** 2))
        return number(least), shares

    def test_by_hand(self):
        self.assertEqual(self.check(UNITS, row(3, -1))[0], 4)
        self.assertEqual(best_shares(UNITS, row(3, -1)), ((4, 1), row("3/4", "1/4"), row(1, -1)))
        self.assertEqual(self.check(SIGNS, row(1, 0)), (1, row("1/2", "1/2")))
        self.assertEqual(self.check(RAMP, row(1, 0)), (1, row(1, 0, 0)))
        self.assertEqual(self.check(RAMP, row(1, 3)), (2, row("1/4", 0, "3/4")))
        self.assertEqual(self.check(trial([(5,), (-7,), (2,)]), row(1))[0], Fraction(1, 7))
        self.assertEqual(best_shares(trial([(5,), (-7,), (2,)]), row(-3)), ((3, 7), row(0, 1, 0), row("-1/7")))

    def test_told_ones(self):
        for made, question in asked_cases(1, 400):
            self.check(made, question)

    def test_no_other_shares_have_less(self):
        rng = random.Random(2)
        met = 0
        for made, question in asked_cases(3, 150):
            least, _ = self.check(made, question)
            for _ in range(6):
                other = own_spread_with(made, question, some_shares(rng, len(made[0])))
                if other is not None:
                    met += 1
                    self.assertGreaterEqual(other, least ** 2)
        self.assertGreater(met, 200)

    def test_other_fair_tellings(self):
        met = 0
        for made, question in asked_cases(4, 150):
            least, _ = self.check(made, question)
            first = tuple(pair(part) for part in own_weights(made, question))
            for telling in [first] + [shifted(first, each, factor) for each in fair_for_nothing(made) for factor in (1, -1)]:
                self.assertTrue(own_is_fair(made, question, telling))
                self.assertGreaterEqual(size(telling), least)
                # The shares that are made of it have the square of its size, or less.
                spread = number(spread_with(made, question, by_size(telling)))
                self.assertLessEqual(spread, size(telling) ** 2)
                self.assertGreaterEqual(spread, least ** 2)
                met += size(telling) == least
        self.assertGreater(met, 20)

    def test_the_shares_are_those_of_a_telling_of_least_size(self):
        for made, question in asked_cases(5, 150):
            least, shares = self.check(made, question)
            rows, unknowns = matrix_of(made[0]), range(len(question))
            matrix = [[sum(number(m) * r[i] * r[j] for m, r in zip(shares, rows)) for j in unknowns] for i in unknowns]
            answer = own_solution(matrix, numbers(question))
            telling = tuple(pair(number(share) * product(answer, line)) for share, line in zip(shares, rows))
            self.assertTrue(own_is_fair(made, question, telling))
            self.assertEqual(size(telling), least)
            self.assertEqual(by_size(telling), shares)

    def test_many_plots_for_many_unknowns(self):
        rng = random.Random(6)
        for k in range(80):
            made = (tuple(some_row(rng, 5, rng.choice((1, 3))) for _ in range(10)), row(*[1] * 10), ())
            question = row(*[int(at == k % 5) for at in range(5)])
            if own_weights(made, question) is not None:
                self.check(made, question)

    def test_plots_that_stand_there_twice_and_their_negatives(self):
        for times in (1, 2, 3):
            made = trial([(1, 0), (1, 1), (-1, -2)] * times)
            self.assertEqual(self.check(made, row(0, 1))[0], 1)
            self.assertEqual(self.check(made, row(0, -1))[0], 1)

    def test_rows_on_one_line_and_plots_of_noughts(self):
        self.assertEqual(self.check(trial([(0, 0), (1, 2), (3, 6), (-1, -2)]), row(-1, -2)), (Fraction(1, 3), row(0, 0, 1, 0)))
        self.assertEqual(self.check(trial([(0, 0), (1, 2)]), row(2, 4)), (2, row(0, 1)))

    def test_great_numbers(self):
        great = 10 ** 399 + 1
        made = (((((great, 2)), (1, 3)), ((-1, great), (2, 1)), ((1, 1), (1, 1))), row(1, 1, 1), ())
        for question in (((1, great), (great, 1)), row(1, 0), ((-great, 3), (1, 1))):
            least, shares = self.check(made, question)
            # What was told may be asked, whatever its size.
            self.check(made, best_shares(made, question)[2])
            self.assertIsNotNone(spread_with(made, best_shares(made, question)[2], shares))


class SpreadWith(unittest.TestCase):

    def test_by_hand(self):
        self.assertEqual(spread_with(RAMP, row(1, 0), row(1, 0, 0)), (1, 1))
        self.assertEqual(spread_with(RAMP, row(2, 0), row("1/3", 0, "2/3")), (12, 1))
        self.assertEqual(spread_with(UNITS, row(1, 1), row("1/3", "2/3")), (9, 2))
        self.assertIsNone(spread_with(UNITS, row(1, 1), row(0, 1)))
        self.assertEqual(spread_with(UNITS, row(0, 1), row(0, 1)), (1, 1))

    def test_none_exactly_if_the_shared_plots_do_not_tell_it(self):
        rng = random.Random(7)
        met = {True: 0, False: 0}
        for made, question in asked_cases(8, 200):
            for _ in range(3):
                shares = some_shares(rng, len(made[0]))
                shared = [line for line, share in zip(matrix_of(made[0]), shares) if share[0] > 0]
                told = own_rank(shared) == own_rank(shared + [numbers(question)])
                met[told] += 1
                spread = spread_with(made, question, shares)
                self.assertEqual(spread is not None, told)
                if told:
                    self.assertEqual(number(spread), own_spread_with(made, question, shares))
        self.assertGreater(min(met.values()), 40)

    def test_it_is_the_least_of_the_shared_plots(self):
        # Each fair telling on the shared plots alone has as much, or more.
        rng = random.Random(9)
        met = 0
        for made, question in asked_cases(10, 120):
            first = tuple(pair(part) for part in own_weights(made, question))
            shares = some_shares(rng, len(made[0]))
            for telling in [first] + [shifted(first, each) for each in fair_for_nothing(made)]:
                if all(weight == (0, 1) or share[0] > 0 for weight, share in zip(telling, shares)):
                    met += 1
                    spread = sum(number(w) ** 2 / number(m) for w, m in zip(telling, shares) if m[0] > 0)
                    self.assertLessEqual(number(spread_with(made, question, shares)), spread)
        self.assertGreater(met, 20)


class Heights(unittest.TestCase):

    def test_by_hand(self):
        self.assertEqual(height(UNITS, row(3, -1), row(1, -1)), (4, 1))
        self.assertEqual(height(UNITS, row(3, -1), row(1, 1)), (2, 1))
        self.assertEqual(height(UNITS, row(3, -1), row(-1, "1/2")), (-7, 2))
        self.assertEqual(height(UNITS, row(3, -1), row(0, 0)), (0, 1))
        self.assertIsNone(height(UNITS, row(3, -1), row("10/9", 0)))
        self.assertIsNone(height(UNITS, row(3, -1), row(0, "-10/9")))
        little = Fraction(1, 10 ** 50)
        self.assertIsNone(height(UNITS, row(3, -1), row(0, -1 - little)))
        self.assertEqual(height(UNITS, row(3, -1), row(0, -1 + little)), pair(1 - little))

    def test_against_own_sums(self):
        rng = random.Random(11)
        met = {True: 0, False: 0}
        for made, question in asked_cases(12, 150):
            barrier = best_shares(made, question)[2]
            tries = [barrier, tuple(pair(-number(part)) for part in barrier), some_row(rng, len(question), 1)]
            tries += [tuple(pair(number(part) * factor) for part in barrier) for factor in (Fraction(2, 3), Fraction(101, 100))]
            for each in tries:
                told, own = height(made, question, each), own_height(made, question, each)
                met[own is None] += 1
                self.assertEqual(told, None if own is None else pair(own))
        self.assertGreater(min(met.values()), 100)

    def test_no_barrier_is_higher_than_the_least_size(self):
        rng = random.Random(13)
        for made, question in asked_cases(14, 60):
            least = number(best_shares(made, question)[0])
            for _ in range(10):
                told = height(made, question, some_row(rng, len(question), 2))
                self.assertTrue(told is None or number(told) <= least)

    def test_whatever_is_no_barrier(self):
        for value in STRANGE + (row(1), row(1, 0, 0), list(row(1, 0)), ([1, 1], (0, 1)), ((2, 2), (0, 1)), (1, 0),
                                ((True, 1), (0, 1)), ((1, 1), (0, 2)), (row(1, 0),), row(1, 0) + ((),)):
            self.assertIsNone(height(UNITS, row(3, -1), value))


class Told(unittest.TestCase):

    def test_not_told(self):
        for made, question in ((trial([(1, 1), (1, 1)]), row(1, 0)), (trial([(0,)]), row(1)),
                               (trial([(1, 0, 0), (0, 1, 0)]), row(1, 1, "1/9"))):
            even = (pair(Fraction(1, len(made[0]))),) * len(made[0])
            self.assertRaises(NotTold, best_shares, made, question)
            self.assertRaises(NotTold, spread_with, made, question, even)
            self.assertRaises(NotTold, height, made, question, row(*[0] * len(question)))
            self.assertRaises(NotTold, height, made, question, None)


if __name__ == "__main__":
    unittest.main()
