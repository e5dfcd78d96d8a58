"""Factors, effects, words, products, pieces and classes (points 22 and 23, and the shortest length of point 24)."""

import random
import unittest

from tests.factor_sums import (own_alike, own_effects, own_odd, own_piece, own_products, own_runs, own_sign, some_effect,
                               word_cases)
from trialground.errors import Unfit
from trialground.factors import alike, classes, effect_sign, odd_lot, piece, products, shortest


class Effects(unittest.TestCase):

    def test_by_hand(self):
        self.assertEqual(effect_sign((1, -1, -1), ()), 1)
        self.assertEqual(effect_sign((1, -1, -1), (1,)), -1)
        self.assertEqual(effect_sign((1, -1, -1), (1, 2)), 1)
        self.assertEqual(effect_sign((-1,) * 6, (0, 1, 2, 3, 4)), -1)
        self.assertEqual(odd_lot(6, (), ()), ())
        self.assertEqual(odd_lot(6, (0, 5), ()), (0, 5))
        self.assertEqual(odd_lot(6, (2, 5), (0, 2, 3)), (0, 3, 5))
        self.assertEqual(odd_lot(1, (0,), (0,)), ())

    def test_each_sign(self):
        for factors in range(1, 7):
            for run in own_runs(factors):
                for effect in own_effects(factors):
                    self.assertEqual(effect_sign(run, effect), own_sign(run, effect))

    def test_the_sign_of_the_odd_lot_is_the_product_of_both(self):
        rng = random.Random(22)
        for factors in range(1, 7):
            effects = own_effects(factors)
            pairs = [(one, other) for one in effects for other in effects]
            for one, other in pairs if factors < 5 else rng.sample(pairs, 200):
                odd = odd_lot(factors, one, other)
                self.assertEqual(odd, own_odd(one, other))
                for run in own_runs(factors):
                    self.assertEqual(effect_sign(run, odd), effect_sign(run, one) * effect_sign(run, other))


class Pieces(unittest.TestCase):

    def test_by_hand(self):
        self.assertEqual(piece(1, ()), ((-1,), (1,)))
        self.assertEqual(products(6, ()), (((), 1),))
        self.assertEqual(piece(2, (((0, 1), -1),)), ((-1, 1), (1, -1)))
        self.assertEqual(products(2, (((0,), 1), ((0,), 1))), (((), 1), ((0,), 1)))
        self.assertEqual(products(3, (((0, 1), -1), ((1, 2), -1))), (((), 1), ((0, 1), -1), ((0, 2), 1), ((1, 2), -1)))

    def test_all_products_and_all_runs(self):
        for factors, words in word_cases(random.Random(1), 40):
            self.assertEqual(products(factors, words), tuple(own_products(words)))
            self.assertEqual(piece(factors, words), tuple(own_piece(factors, words)))

    def test_just_one_of_both(self):
        met = {True: 0, False: 0}
        for factors, words in word_cases(random.Random(2), 40):
            told, runs = products(factors, words), piece(factors, words)
            empty = ((), -1) in told
            met[empty] += 1
            if empty:
                self.assertEqual(runs, ())
            else:
                self.assertEqual(len({effect for effect, _ in told}), len(told))
                self.assertEqual(len(runs) * len(told), 2 ** factors)
            for run in runs:
                self.assertTrue(all(own_sign(run, effect) == sign for effect, sign in told))
        self.assertGreater(min(met.values()), 100)

    def test_alike_or_apart(self):
        rng = random.Random(3)
        met = {1: 0, 0: 0, -1: 0}
        for factors, words in word_cases(rng, 8):
            runs, told = own_piece(factors, words), own_products(words)
            for _ in range(20 if runs else 0):
                one, other = some_effect(rng, factors), some_effect(rng, factors)
                sign = alike(factors, words, one, other)
                met[sign] += 1
                self.assertIs(sign.__class__, int)
                self.assertEqual(sign, own_alike(runs, one, other))
                self.assertEqual([sign == each for each in (1, -1)],
                                 [(own_odd(one, other), each) in told for each in (1, -1)])
        self.assertGreater(min(met.values()), 100)

    def test_classes(self):
        for factors, words in word_cases(random.Random(4), 8):
            runs = own_piece(factors, words)
            if not runs:
                continue
            found = classes(factors, words)
            self.assertEqual(found, tuple(sorted(found)))
            self.assertEqual(sorted(effect for lot in found for effect in lot), sorted(own_effects(factors)))
            for lot in found:
                self.assertEqual(lot, tuple(sorted(lot)))
                self.assertEqual(len(lot), len(own_products(words)))
                self.assertTrue(all(own_alike(runs, lot[0], effect) for effect in lot))
            # Effects of unlike classes are apart.
            first = [lot[0] for lot in found]
            self.assertTrue(all(own_alike(runs, one, other) == 0 for one in first for other in first if one < other))

    def test_an_empty_piece_is_unfit(self):
        empty = 0
        for factors, words in word_cases(random.Random(5), 20):
            if not own_piece(factors, words):
                empty += 1
                for call in (lambda: alike(factors, words, (), (0,)), lambda: classes(factors, words),
                             lambda: shortest(factors, words)):
                    with self.assertRaises(Unfit) as caught:
                        call()
                    self.assertIs(caught.exception.given, words)
        self.assertGreater(empty, 50)


class Shortest(unittest.TestCase):

    def test_by_hand(self):
        self.assertIsNone(shortest(4, ()))
        self.assertEqual(shortest(5, (((0, 1, 2), 1), ((2, 3, 4), -1))), 3)
        self.assertEqual(shortest(5, (((0, 1, 2, 3), 1), ((1, 2, 3, 4), -1))), 2)
        self.assertEqual(shortest(1, (((0,), -1), ((0,), -1))), 1)

    def test_the_least_number_of_factors(self):
        for factors, words in word_cases(random.Random(6), 20):
            if own_piece(factors, words):
                sizes = [len(effect) for effect, _ in own_products(words) if effect]
                self.assertEqual(shortest(factors, words), min(sizes) if sizes else None)

    def test_which_effects_may_be_alike(self):
        for factors, words in word_cases(random.Random(7), 3):
            if not own_piece(factors, words) or shortest(factors, words) is None:
                continue
            length, effects = shortest(factors, words), own_effects(factors)
            met = {(len(one), len(other)) for one in effects for other in effects
                   if one != other and alike(factors, words, one, other)}
            for size in range(length + 1):
                self.assertTrue(all((size, few) not in met for few in range(length - size)))
                self.assertIn((size, length - size), met)


if __name__ == "__main__":
    unittest.main()
