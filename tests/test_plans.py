"""Plans: balance, which are pieces, what is missing, and trials made of them (points 24 to 26)."""

import random
import unittest
from fractions import Fraction

from tests.factor_sums import (own_effects, own_is_balanced, own_is_missing, own_is_piece, own_piece, own_products, own_runs,
                               own_sign, own_sum, some_plan, word_cases)
from tests.sums import own_least_spread
from tests.support import number, pair, row
from trialground.best import best_telling, least_spread
from trialground.errors import InvalidNumber, InvalidRows, InvalidRuns
from trialground.factors import piece, shortest
from trialground.plans import balance, is_balanced, missing, sum_of, trial_of, unbalanced, words_of


def plans(seed, many):
    rng = random.Random(seed)
    return [some_plan(rng, 1 + k % 6) for k in range(many)]


class Balance(unittest.TestCase):

    def test_by_hand(self):
        half = ((-1, -1, 1), (-1, 1, -1), (1, -1, -1), (1, 1, 1))
        self.assertEqual([sum_of(half, effect) for effect in ((), (0,), (0, 2), (0, 1, 2))], [4, 0, 0, 4])
        self.assertEqual([is_balanced(half, many) for many in range(1, 7)], [True, True] + [False] * 4)
        self.assertEqual([unbalanced(half, many) for many in range(1, 7)], [None, None] + [(0, 1, 2)] * 4)
        self.assertEqual(balance(half), 2)
        # Two factors, all runs twice: balanced in full, up to more factors than there are, too.
        self.assertEqual(balance(tuple(own_runs(2) * 2)), 2)
        self.assertIs(is_balanced(tuple(own_runs(2) * 2), 6), True)
        self.assertEqual(balance(((1,),)), 0)
        self.assertEqual(unbalanced(((1, -1), (-1, -1)), 1), (1,))

    def test_sums(self):
        rng = random.Random(1)
        for plan in plans(2, 120):
            for effect in rng.sample(own_effects(len(plan[0])), min(8, 2 ** len(plan[0]))):
                self.assertEqual(sum_of(plan, effect), own_sum(plan, effect))
                self.assertEqual(sum_of(runs=plan[:1], effect=effect), own_sign(plan[0], effect))

    def test_balanced_against_a_count_of_all_rows_of_signs(self):
        met = {}
        for plan in plans(3, 500):
            factors = len(plan[0])
            told = [own_is_balanced(plan, many) for many in range(1, 7)]
            self.assertEqual([is_balanced(plan, many) for many in range(1, 7)], told)
            self.assertEqual(balance(plan), told[:factors].count(True))
            met[balance(plan)] = met.get(balance(plan), 0) + 1
            for many in range(1, 7):
                self.check_effect(plan, many, told[many - 1])
        self.assertLessEqual({0, 1, 2, 3, 4}, set(met))

    def check_effect(self, plan, many, balanced):
        effect = unbalanced(plan, many)
        if balanced:
            self.assertIsNone(effect)
        else:
            self.assertIn(effect, own_effects(len(plan[0])))
            self.assertTrue(1 <= len(effect) <= many and own_sum(plan, effect))

    def test_many_and_single_runs(self):
        for factors in range(1, 7):
            for run in own_runs(factors)[:5]:
                self.assertEqual(balance((run,)), 0)
                self.assertEqual(balance((run,) * 64), 0)
            full = tuple(own_runs(factors))
            self.assertEqual(balance(full), factors)
            self.assertEqual(balance(full * (64 // len(full))), factors)

    def test_a_piece_is_balanced_up_to_below_its_shortest_length(self):
        met = set()
        for factors, words in word_cases(random.Random(4), 8):
            runs = piece(factors, words)
            if runs:
                length = shortest(factors, words)
                met.add(length)
                self.assertEqual(balance(runs), factors if length is None else length - 1)
                for many in range(1, 7):
                    self.assertEqual(is_balanced(runs, many), length is None or length > many)
        self.assertLessEqual({None, 1, 2, 3, 4}, met)


class Pieces(unittest.TestCase):

    def check(self, plan):
        """Just one of words and of what is missing is told, and it is right; whether it is a piece."""
        words, absent = words_of(plan), missing(plan)
        self.assertEqual(words is not None, own_is_piece(plan))
        self.assertEqual(words is None, absent is not None)
        if words is None:
            self.assertTrue(own_is_missing(plan, absent), (plan, absent))
        else:
            self.assertTrue(words.__class__ is tuple and len(words) <= 6)
            self.assertEqual(own_piece(len(plan[0]), words), sorted(plan))
        return words is not None

    def test_by_hand(self):
        self.assertEqual(words_of(tuple(own_runs(3))), ())
        self.assertEqual(words_of(((-1,),)), (((0,), -1),))
        self.assertEqual(words_of(((1,),)), (((0,), 1),))
        self.assertEqual(missing(((1, 1), (1, 1))), (0, 1))
        self.assertEqual(missing(((1, 1), (1, -1), (-1, 1))), (0, 1, 2))
        # Any two unlike runs are a piece.
        self.assertIsNone(missing(((1, 1, 1), (-1, 1, -1))))
        self.assertIsNone(words_of(((1, -1),) * 64))

    def test_words_or_what_is_missing(self):
        met = {True: 0, False: 0}
        for plan in plans(5, 900):
            met[self.check(plan)] += 1
        self.assertGreater(min(met.values()), 200)

    def test_all_plans_of_few_factors(self):
        for factors in (1, 2, 3):
            runs = own_runs(factors)
            for mask in range(1, 2 ** len(runs)):
                plan = tuple(run for k, run in enumerate(runs) if mask >> k & 1)
                self.check(plan)
                self.check(plan[::-1])

    def test_all_pieces_in_any_order(self):
        rng = random.Random(6)
        for factors, words in word_cases(rng, 6):
            runs = own_piece(factors, words)
            rng.shuffle(runs)
            if runs:
                self.assertTrue(self.check(tuple(runs)))
                self.assertEqual(own_products(words_of(tuple(runs))), own_products(words))

    def test_just_short_of_a_piece(self):
        rng = random.Random(7)
        for factors in range(1, 7):
            runs = own_runs(factors)
            for at in range(0, len(runs), 5):
                less = runs[:at] + runs[at + 1:]
                rng.shuffle(less)
                # One run alone is a piece.
                self.assertEqual(self.check(tuple(less)), factors == 1)


class Trials(unittest.TestCase):

    def test_by_hand(self):
        self.assertEqual(trial_of(((1, -1), (-1, -1)), ((1,), (), (0, 1))),
                         ((row(-1, 1, -1), row(-1, 1, 1)), row(1, 1), ()))

    def test_the_signs_as_rows(self):
        rng = random.Random(8)
        for plan in plans(9, 300):
            effects = rng.sample(own_effects(len(plan[0])), min(rng.randint(1, 5), 2 ** len(plan[0])))
            made = trial_of(plan[:10], tuple(effects))
            rows = tuple(row(*[own_sign(run, effect) for effect in effects]) for run in plan[:10])
            self.assertEqual(made, (rows, row(*[1] * len(rows)), ()))

    def test_up_to_ten_runs_and_five_effects(self):
        full = tuple(own_runs(4))
        self.assertEqual(len(trial_of(full[:10], ((),))[0]), 10)
        for runs in (full[:11], full, full * 4, full * 5, full[:10] + (None,), ((),) * 11):
            with self.assertRaises(InvalidRuns) as caught:
                trial_of(runs, ((),))
            self.assertIsNone(caught.exception.index)
        self.assertEqual(len(trial_of(full[:2], tuple(own_effects(4)[:5]))[0][0]), 5)
        with self.assertRaises(InvalidRows) as caught:
            trial_of(full[:2], tuple(own_effects(4)[:6]))
        self.assertIsNone(caught.exception.index)

    def test_in_a_piece_each_effect_has_one_over_its_runs(self):
        rng, met = random.Random(10), 0
        for factors, words in word_cases(rng, 6):
            runs = piece(factors, words)
            if not 1 <= len(runs) <= 10:
                continue
            met += 1
            first = {}
            for effect in rng.sample(own_effects(factors), 2 ** factors):
                # One effect of each class, told by its signs up to turning all of them.
                signs = tuple(own_sign(run, effect) for run in runs)
                first.setdefault(max(signs, tuple(-sign for sign in signs)), effect)
            effects = tuple(first.values())[:5]
            made = trial_of(runs, effects)
            for at, effect in enumerate(effects):
                asked = row(*[int(k == at) for k in range(len(effects))])
                self.assertEqual(least_spread(made, asked), (1, len(runs)))
                signs = [Fraction(own_sign(run, effect), len(runs)) for run in runs]
                self.assertEqual(best_telling(made, asked), tuple(pair(each) for each in signs))
        self.assertGreater(met, 50)

    def test_no_unknown_has_less_than_one_over_the_plots(self):
        rng = random.Random(11)
        met = {True: 0, False: 0}
        for k in range(400):
            unknowns, plots = rng.randint(1, 4), rng.choice((1, 2, 4, 4, 8, rng.randint(1, 10)))
            worths = ((-1, 1), (-1, 1), (-1, "-1/2", 0, "1/3", 1))[k % 3]
            rows = tuple(row(*[rng.choice(worths) for _ in range(unknowns)]) for _ in range(plots))
            if k % 6 == 0 and plots > 2:
                rows = trial_of(tuple(own_runs(3)), tuple(own_effects(3)[:unknowns]))[0]
            made = (rows, row(*[1] * len(rows)), ())
            least = [own_least_spread(made, row(*[int(i == j) for i in range(unknowns)])) for j in range(unknowns)]
            for j, each in enumerate(least):
                if each is not None:
                    self.assertEqual(number(least_spread(made, row(*[int(i == j) for i in range(unknowns)]))), each)
                    self.assertGreaterEqual(each, Fraction(1, len(rows)))
            columns = [[number(part) for part in column] for column in zip(*rows)]
            apart = all(sum(a * b for a, b in zip(columns[i], columns[j])) == 0
                        for i in range(unknowns) for j in range(i))
            best = apart and all(abs(part) == 1 for column in columns for part in column)
            met[best] += 1
            self.assertEqual(best, all(each == Fraction(1, len(rows)) for each in least))
        self.assertGreater(min(met.values()), 30)


class Wrong(unittest.TestCase):

    def test_indexes_of_wrong_runs(self):
        run, other = (1, -1), (-1, -1)
        for runs, index in ((((1, 0), run), 0), ((run, (1,)), 1), ((run, other, (1, 1, 1)), 2), (((1,) * 7,), 0), (((),), 0),
                            ((run, (1, True)), 1), ((run, other, [1, 1]), 2), ((run,) * 65, None), ((), None),
                            ([run, other], None), ((run, run, run, (1, 2)), 3), ((run, None, (1, 0)), 1)):
            for call in (lambda: balance(runs), lambda: words_of(runs), lambda: missing(runs), lambda: sum_of(runs, None),
                         lambda: is_balanced(runs, 0), lambda: unbalanced(runs, 7), lambda: trial_of(runs, None)):
                with self.assertRaises(InvalidRuns) as caught:
                    call()
                self.assertEqual(caught.exception.index, index)

    def test_many_from_one_to_six(self):
        for plan in plans(12, 12):
            for many in (0, 7, -1, True, "1", None, (1,), 10 ** 399):
                self.assertRaises(InvalidNumber, is_balanced, plan, many)
                self.assertRaises(InvalidNumber, unbalanced, plan, many)

    def test_effects_of_a_trial(self):
        runs = ((1, -1, 1), (1, 1, 1))
        for effects, index in (((), None), ([(0,)], None), (((0,),) * 6, None), (((0,), (0,)), 1), (((), (0, 1), ()), 2),
                               (((3,),), 0), (((1, 0),), 0), (((0,), (0, 0)), 1), (((0,), [1]), 1), (((0,), (True,)), 1),
                               (((-1,), (0,)), 0), (((), 0), 1)):
            with self.assertRaises(InvalidRows) as caught:
                trial_of(runs, effects)
            self.assertEqual(caught.exception.index, index)
        self.assertEqual(trial_of(runs, ((0, 1, 2), (), (2,)))[0], (row(-1, 1, 1), row(1, 1, 1)))


if __name__ == "__main__":
    unittest.main()
