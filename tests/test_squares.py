"""Even tables: squares of which they are the sum, or rows for which they are below 0 (point 11)."""

import random
import unittest
from fractions import Fraction

from tests.sums import (are_squares_of, is_nowhere_below_by_minors, matrix_of, numbers, own_sum_at,
                        own_sum_of_squares, own_table, some_even_table, table_from, table_trials)
from tests.support import pair, row, some_fraction, some_row
from trialground.squares import is_nowhere_below, squares_or_below, sum_at, table_of_squares
from trialground.tables import table_of


def some_squares(rng, many, most=5):
    return tuple((pair(Fraction(rng.randint(1, 5), rng.randint(1, 3))), some_row(rng, many, 2))
                 for _ in range(rng.randint(0, most)))


class SquaresOrBelow(unittest.TestCase):

    def check(self, matrix):
        """What is told is right by the test's own sums, and just one of both; which one."""
        table = table_from(matrix)
        answer = squares_or_below(table)
        self.assertIs(answer.__class__, tuple)
        kind, found = answer
        if kind == "squares":
            self.assertTrue(are_squares_of(found, matrix))
        else:
            self.assertEqual(kind, "below")
            self.assertIs(found.__class__, tuple)
            self.assertEqual(len(found), len(matrix))
            self.assertEqual(found, tuple(pair(part) for part in numbers(found)))
            self.assertLess(own_sum_at(matrix, numbers(found)), 0)
        nowhere = is_nowhere_below_by_minors(matrix)
        self.assertEqual(kind == "squares", nowhere)
        self.assertIs(is_nowhere_below(table), nowhere)
        return nowhere

    def test_by_hand(self):
        self.assertTrue(self.check([[Fraction(2)]]))
        self.assertTrue(self.check([[Fraction(0)]]))
        self.assertFalse(self.check([[Fraction(-1, 7)]]))
        self.assertTrue(self.check(matrix_of((row(1, 2), row(2, 4)))))
        self.assertFalse(self.check(matrix_of((row(1, 2), row(2, "399/100")))))
        self.assertTrue(self.check(matrix_of((row(1, 2), row(2, "401/100")))))
        self.assertEqual(squares_or_below((row(0, 0), row(0, 0))), ("squares", ()))

    def test_noughts_on_the_diagonal(self):
        for beside in (1, -1, "1/9", "-5/2"):
            for matrix in (matrix_of((row(0, beside), row(beside, 0))),
                           matrix_of((row(1, 1, 1), row(1, 1, beside), row(1, beside, 1))),
                           matrix_of((row(0, 0, 0), row(0, 0, beside), row(0, beside, 0))),
                           matrix_of((row(0, beside, 0), row(beside, 3, 0), row(0, 0, 5)))):
                self.check(matrix)
            self.assertFalse(self.check(matrix_of((row(0, beside), row(beside, 0)))))
            self.assertFalse(self.check(matrix_of((row(0, beside), row(beside, 9)))))

    def test_noughts_alone(self):
        for many in range(1, 6):
            self.assertTrue(self.check([[Fraction(0)] * many for _ in range(many)]))
            self.assertEqual(squares_or_below((row(*[0] * many),) * many), ("squares", ()))

    def test_one_number_below_0_on_the_diagonal(self):
        for many in range(1, 6):
            for at in range(many):
                matrix = [[Fraction(int(i == j)) for j in range(many)] for i in range(many)]
                self.assertTrue(self.check(matrix))
                matrix[at][at] = Fraction(-1, 3)
                self.assertFalse(self.check(matrix))

    def test_sums_of_squares(self):
        rng = random.Random(1)
        for many in range(1, 6):
            for _ in range(40):
                squares = some_squares(rng, many)
                self.assertTrue(self.check(own_sum_of_squares(many, squares)))

    def test_sums_of_squares_with_one_number_a_little_otherwise(self):
        rng = random.Random(2)
        met = {True: 0, False: 0}
        for many in range(1, 6):
            for _ in range(60):
                matrix = own_sum_of_squares(many, some_squares(rng, many))
                one, other = rng.randrange(many), rng.randrange(many)
                little = rng.choice((1, -1)) * Fraction(1, rng.choice((1, 10, 10 ** 30)))
                matrix[one][other] += little
                if one != other:
                    matrix[other][one] += little
                met[self.check(matrix)] += 1
        self.assertGreater(min(met.values()), 50)

    def test_any_even_tables(self):
        rng = random.Random(3)
        met = {True: 0, False: 0}
        for many in range(1, 6):
            for _ in range(120):
                met[self.check(some_even_table(rng, many))] += 1
        self.assertGreater(min(met.values()), 50)

    def test_below_behind_letters_that_were_taken_out(self):
        # One square less than it has: below 0 in just one direction, which is none of a letter.
        rng = random.Random(4)
        met = 0
        for many in range(2, 6):
            for _ in range(30):
                squares = some_squares(rng, many)
                matrix = own_sum_of_squares(many, squares)
                taken = own_sum_of_squares(many, ((pair(Fraction(1, 4)), some_row(rng, many, 2)),))
                less = [[a - b for a, b in zip(line, beside)] for line, beside in zip(matrix, taken)]
                met += not self.check(less)
        self.assertGreater(met, 60)

    def test_tables_of_trials(self):
        for made in table_trials(5, 150):
            self.assertTrue(self.check(own_table(made)))
            self.assertEqual(squares_or_below(table_of(made))[0], "squares")

    def test_great_numbers(self):
        great = Fraction(10 ** 399 + 1, 3)
        self.assertTrue(self.check([[great, Fraction(1)], [Fraction(1), 1 / great]]))
        self.assertFalse(self.check([[great, Fraction(1)], [Fraction(1), 1 / (great + 1)]]))
        # What was told may be passed, whatever its size.
        kind, row_below = squares_or_below(table_from([[great, Fraction(1)], [Fraction(1), 1 / (great + 1)]]))
        self.assertEqual(kind, "below")
        table = table_of_squares(2, (((1, 1), row_below),))
        self.assertIs(is_nowhere_below(table), True)


class TableOfSquares(unittest.TestCase):

    def test_by_hand(self):
        self.assertEqual(table_of_squares(1, ()), (row(0),))
        self.assertEqual(table_of_squares(3, ()), (row(0, 0, 0),) * 3)
        self.assertEqual(table_of_squares(2, (((1, 2), row(1, -4)),)), (row("1/2", -2), row(-2, 8)))
        self.assertEqual(table_of_squares(1, (((2, 1), row(3)),) * 5), (row(90),))

    def test_against_own_sums(self):
        rng = random.Random(6)
        for many in range(1, 6):
            for _ in range(40):
                squares = some_squares(rng, many)
                self.assertEqual(table_of_squares(many, squares), table_from(own_sum_of_squares(many, squares)))

    def test_squares_that_were_told(self):
        for made in table_trials(7, 100):
            table = table_of(made)
            kind, squares = squares_or_below(table)
            self.assertEqual((kind, table_of_squares(len(table), squares)), ("squares", table))


class SumAt(unittest.TestCase):

    def test_by_hand(self):
        self.assertEqual(sum_at((row("-1/2"),), row(4)), (-8, 1))
        self.assertEqual(sum_at((row(1, 2), row(2, 3)), row(5, "-1/7")), pair(25 - Fraction(20, 7) + Fraction(3, 49)))
        self.assertEqual(sum_at((row(1, 2), row(2, 3)), row(0, 0)), (0, 1))

    def test_against_own_sums(self):
        rng = random.Random(8)
        for many in range(1, 6):
            for _ in range(60):
                matrix, z = some_even_table(rng, many), tuple(some_fraction(rng, 5) for _ in range(many))
                self.assertEqual(sum_at(table_from(matrix), z), pair(own_sum_at(matrix, numbers(z))))


if __name__ == "__main__":
    unittest.main()
