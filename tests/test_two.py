"""Two trials: which one is better for all questions (point 13, and "Two trials" of point 2)."""

import random
import unittest

from tests.sums import (are_squares_of, is_nowhere_below_by_minors, minus_matrix, numbers, own_least_spread,
                        own_sum_at, own_table, reordered, table_trial, times_row)
from tests.support import number, pair, row, some_question, some_row, trial
from trialground.best import least_spread
from trialground.errors import NotTold
from trialground.two import are_equally_good, compared, is_at_least_as_good

FEW = trial([(1, 0), (0, 1)])
SCALE = trial([(1, 0), (0, 1), (1, 1)])
NOTHING = trial([(0, 0)])


def a_pair(rng, number_of_case):
    """Two trials of as many unknowns, made in one of several ways."""
    unknowns, plots = 1 + number_of_case % 5, rng.randint(1, 9)
    one = table_trial(rng, unknowns, plots, rng.random() < 0.5)
    rows, spreads, blocks = one
    at = rng.randrange(plots)
    kind = number_of_case // 5 % 7
    if kind == 0:
        other = table_trial(rng, unknowns, rng.randint(1, 10), rng.random() < 0.5)
    elif kind == 1:
        more = (some_row(rng, unknowns, 2),)
        other = (rows + more, spreads + row(rng.randint(1, 3)), blocks + (rng.randrange(5),) if blocks else ())
    elif kind == 2:
        changed = tuple(pair(number(each) * rng.choice((1, 2))) for each in spreads)
        other = (rows, changed, blocks)
    elif kind == 3:
        other = (rows, spreads[:at] + (pair(number(spreads[at]) / 3),) + spreads[at + 1:], blocks)
    elif kind == 4:
        other = (rows[:at] + (some_row(rng, unknowns, 2),) + rows[at + 1:], spreads, blocks)
    elif kind == 5:
        other = (rows, spreads, ())
    else:
        other = reordered(one, rng.sample(range(plots), plots))
    return (one, other) if rng.random() < 0.5 else (other, one)


class Two(unittest.TestCase):

    def check(self, one, other):
        """What is told is right by the test's own sums, and just one of both; whether as good."""
        difference = minus_matrix(own_table(one), own_table(other))
        answer = compared(one, other)
        self.assertIs(answer.__class__, tuple)
        good = answer[0] == "as good"
        self.assertEqual(good, is_nowhere_below_by_minors(difference))
        self.assertIs(is_at_least_as_good(one, other), good)
        if good:
            self.assertEqual(len(answer), 2)
            self.assertTrue(are_squares_of(answer[1], difference))
        else:
            self.assertEqual((answer[0], len(answer)), ("not", 3))
            self.check_question(one, other, difference, *answer[1:])
        return good

    def check_question(self, one, other, difference, z, question):
        self.assertEqual((z.__class__, question.__class__), (tuple, tuple))
        self.assertLess(own_sum_at(difference, numbers(z)), 0)
        self.assertEqual(numbers(question), times_row(own_table(other), numbers(z)))
        self.assertEqual(question, tuple(pair(number(part)) for part in question))
        theirs, mine = own_least_spread(other, question), own_least_spread(one, question)
        self.assertEqual(number(least_spread(other, question)), theirs)
        if mine is None:
            self.assertRaises(NotTold, least_spread, one, question)
        else:
            self.assertEqual(number(least_spread(one, question)), mine)
            self.assertLess(theirs, mine)

    def test_by_hand(self):
        self.assertTrue(self.check(SCALE, FEW))
        self.assertFalse(self.check(FEW, SCALE))
        self.assertTrue(self.check(FEW, NOTHING))
        self.assertFalse(self.check(NOTHING, FEW))
        self.assertTrue(self.check(NOTHING, NOTHING))
        # Better for the one unknown, worse for the other one: neither is as good.
        one, other = trial([(2, 0), (0, 1)]), trial([(1, 0), (0, 2)])
        self.assertFalse(self.check(one, other))
        self.assertFalse(self.check(other, one))
        # With blocks the same plots tell nothing but differences.
        self.assertFalse(self.check(FEW[:2] + ((0, 0),), FEW))
        self.assertTrue(self.check(FEW, FEW[:2] + ((0, 0),)))
        self.assertFalse(self.check(FEW[:2] + ((0, 1),), FEW[:2] + ((0, 0),)))

    def test_a_question_that_is_told_by_the_other_alone(self):
        kind, _, question = compared(trial([(1, 0)]), trial([(0, 5)]))
        self.assertEqual(kind, "not")
        self.assertEqual(question[0], (0, 1))
        self.assertNotEqual(question[1], (0, 1))

    def test_pairs(self):
        rng = random.Random(1)
        met = {True: 0, False: 0}
        for k in range(420):
            met[self.check(*a_pair(rng, k))] += 1
        self.assertGreater(min(met.values()), 100)

    def test_as_good_for_all_questions(self):
        rng = random.Random(2)
        met = 0
        for k in range(300):
            one, other = a_pair(rng, k)
            if is_at_least_as_good(one, other):
                for question in [some_question(rng, other) for _ in range(4)]:
                    theirs = own_least_spread(other, question)
                    if theirs is not None:
                        met += 1
                        self.assertLessEqual(number(least_spread(one, question)), theirs)
        self.assertGreater(met, 100)

    def test_plots_more_and_spreads_less_are_as_good(self):
        rng = random.Random(3)
        for k in range(60):
            rows, spreads, blocks = table_trial(rng, 1 + k % 5, rng.randint(1, 9), k % 2 == 0)
            more = (rows + (some_row(rng, 1 + k % 5),), spreads + row(2), blocks + (rng.randrange(5),) if blocks else ())
            less = (rows, tuple(pair(number(each) / 2) for each in spreads), blocks)
            self.assertTrue(self.check(more, (rows, spreads, blocks)))
            self.assertTrue(self.check(less, (rows, spreads, blocks)))
            self.assertTrue(self.check((rows, spreads, ()), (rows, spreads, blocks)))

    def test_a_little_is_seen(self):
        little = (10 ** 300 + 1, 10 ** 300)
        self.assertFalse(self.check((FEW[0], ((1, 1), little), ()), FEW))
        self.assertTrue(self.check(FEW, (FEW[0], ((1, 1), little), ())))


class Equal(unittest.TestCase):

    def test_by_hand(self):
        self.assertIs(are_equally_good(FEW, FEW), True)
        self.assertIs(are_equally_good(FEW, SCALE), False)
        self.assertIs(are_equally_good(SCALE, FEW), False)
        # Two plots with the half heft each tell what one tells; so does one of twice the row.
        self.assertIs(are_equally_good(trial([(1, 1), (1, 1)], [2, 2]), trial([(1, 1)])), True)
        self.assertIs(are_equally_good(trial([(2, 2)], [4]), trial([(-1, -1)])), True)
        self.assertIs(are_equally_good(trial([(2, 2)], [4]), trial([(-1, 1)])), False)
        self.assertIs(are_equally_good(trial([(1, 1)], [1], (2,)), NOTHING), True)

    def test_exactly_if_each_is_as_good_as_the_other(self):
        rng = random.Random(4)
        met = {True: 0, False: 0}
        for k in range(300):
            one, other = a_pair(rng, k)
            equal = own_table(one) == own_table(other)
            met[equal] += 1
            self.assertIs(are_equally_good(one, other), equal)
            self.assertEqual(is_at_least_as_good(one, other) and is_at_least_as_good(other, one), equal)
        self.assertGreater(min(met.values()), 30)

    def test_the_same_in_another_order(self):
        rng = random.Random(5)
        for k in range(60):
            one = table_trial(rng, 1 + k % 5, rng.randint(1, 10), k % 2 == 0)
            other = reordered(one, rng.sample(range(len(one[0])), len(one[0])))
            self.assertIs(are_equally_good(one, other), True)
            self.assertTrue(self.both(one, other))

    def both(self, one, other):
        return compared(one, other) == compared(other, one) == ("as good", ())


if __name__ == "__main__":
    unittest.main()
