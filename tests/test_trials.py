"""Trials, worlds, questions, yields, answers and parts of trials (points 3 and 6)."""

import random
import unittest
from fractions import Fraction

from tests.support import (STRANGE, cases, levels, number, own_answer, own_yields, pair, row, some_world, trial)
from trialground.trials import answer, is_question, is_trial, is_world, levels_of, plots_of, yields

GREAT = 10 ** 399 + 1

# Each of these stands in the place of a fraction and is none.
NO_FRACTIONS = (
    None, True, False, 0, 1, -1, "1", "1/2", b"1", (), (1,), (1, 1, 1), [1, 1], (True, 1), (1, True), (False, 1),
    (0, 0), (1, 0), (1, -1), (-1, -1), (0, 2), (0, -1), (2, 2), (2, 4), (-3, 6), (10 ** 30, 10 ** 29), ("1", "2"),
    (None, 1), (1, None), ((1, 1), 1), (1, (1, 1)), ((1, 1), (1, 1)), {1: 1}, {1, 2}, "12", (1, "1"), ([1], 1),
)
FRACTIONS = ((0, 1), (1, 1), (-1, 1), (1, 2), (-7, 3), (GREAT, 2), (-1, GREAT), (10 ** 200, 10 ** 200 + 1))


def exchanged(value, at, part):
    """A tuple with another part at an index, however deep the index (a tuple) leads."""
    inner = part if len(at) == 1 else exchanged(value[at[0]], at[1:], part)
    return value[:at[0]] + (inner,) + value[at[0] + 1:]


PLAIN = trial([(1, 0), (0, 1), ("1/2", -3)], [1, 2, "1/3"])
BLOCKED = trial([(1, 0), (0, 1), ("1/2", -3)], [1, 2, "1/3"], (0, 2, 2))
WORLD = (row(1, "-1/2"), ())
BLOCKED_WORLD = (row(1, "-1/2"), row(3, "2/5", 0))
QUESTION = row("1/2", -7)


class IsTrial(unittest.TestCase):

    def yes(self, value):
        self.assertIs(is_trial(value), True, repr(value)[:200])

    def no(self, value):
        self.assertIs(is_trial(value), False, repr(value)[:200])

    def test_right_ones(self):
        for value in (PLAIN, BLOCKED, trial([(0,)]), trial([(0, 0, 0, 0, 0)] * 10), trial([(1,)] * 10, None, (4,) * 10)):
            self.yes(value)
        for made, _ in cases(1, 200):
            self.yes(made)

    def test_any_number_of_plots_from_1_to_10(self):
        for many in range(14):
            self.assertIs(is_trial(trial([(1, 2)] * many)), 1 <= many <= 10)
            self.assertIs(is_trial(trial([(1, 2)] * many, None, (0,) * many)), 1 <= many <= 10)

    def test_any_number_of_unknowns_from_1_to_5(self):
        for many in range(9):
            self.assertIs(is_trial(trial([(1,) * many] * 3)), 1 <= many <= 5)

    def test_rows_of_unlike_lengths(self):
        for rows in ([(1, 0), (1,)], [(1,), (1, 0)], [(1, 0), (1, 0), (1, 0, 0)], [(1, 0), ()], [(), (1, 0)]):
            self.no(trial(rows))

    def test_fractions_in_rows(self):
        for value in FRACTIONS:
            self.yes(exchanged(PLAIN, (0, 1, 0), value))
            self.yes(exchanged(BLOCKED, (0, 2, 1), value))

    def test_no_fraction_in_rows(self):
        for value in NO_FRACTIONS:
            for at in ((0, 0, 0), (0, 1, 1), (0, 2, 0)):
                self.no(exchanged(PLAIN, at, value))

    def test_spreads_are_above_0(self):
        for value in FRACTIONS:
            for at in ((1, 0), (1, 2)):
                self.assertIs(is_trial(exchanged(PLAIN, at, value)), number(value) > 0)

    def test_no_fraction_in_spreads(self):
        for value in NO_FRACTIONS:
            for at in ((1, 0), (1, 1), (1, 2)):
                self.no(exchanged(PLAIN, at, value))

    def test_as_many_spreads_as_plots(self):
        rows, spreads, _ = PLAIN
        for given in ((), spreads[:1], spreads[:2], spreads + spreads[:1], spreads * 2, spreads * 100):
            self.no((rows, given, ()))

    def test_blocks_from_0_to_4(self):
        for block in (0, 1, 2, 3, 4):
            for at in ((2, 0), (2, 1), (2, 2)):
                self.yes(exchanged(BLOCKED, at, block))
        wrong = (5, 6, -1, 10 ** 399, -10 ** 399, True, False, None, "0", b"0", (0,), (0, 1), (), [], [0], {}, {0})
        for block in wrong:
            for at in ((2, 0), (2, 1), (2, 2)):
                self.no(exchanged(BLOCKED, at, block))

    def test_blocks_with_numbers_left_out(self):
        for blocks in ((4, 4, 4), (0, 4, 0), (1, 3, 1), (3, 1, 0), (2, 2, 3)):
            self.yes(PLAIN[:2] + (blocks,))

    def test_as_many_blocks_as_plots_or_none(self):
        for many in range(12):
            self.assertIs(is_trial(PLAIN[:2] + ((0,) * many,)), many in (0, 3))

    def test_lists_are_no_tuples(self):
        self.no(list(PLAIN))
        for value in (PLAIN, BLOCKED):
            for at in ((0,), (1,), (2,), (0, 0), (0, 2), (0, 1, 1), (1, 0), (1, 2)):
                part = value
                for index in at:
                    part = part[index]
                self.no(exchanged(value, at, list(part)))

    def test_three_parts(self):
        for value in (PLAIN[:2], PLAIN[:1], PLAIN + ((),), PLAIN + PLAIN, (PLAIN,), (PLAIN[1], PLAIN[0], ())):
            self.no(value)

    def test_strange_values(self):
        for value in STRANGE:
            self.no(value)
            for at in ((0,), (0, 0), (0, 2), (1,)):
                self.no(exchanged(BLOCKED, at, value))
            if value.__class__ is not tuple:
                self.no(exchanged(BLOCKED, (2,), value))


class IsWorld(unittest.TestCase):

    def yes(self, of, value):
        self.assertIs(is_world(of, value), True, repr(value)[:200])

    def no(self, of, value):
        self.assertIs(is_world(of, value), False, repr(value)[:200])

    def test_right_ones(self):
        self.yes(PLAIN, WORLD)
        self.yes(BLOCKED, BLOCKED_WORLD)
        rng = random.Random(3)
        for made, _ in cases(3, 200):
            self.yes(made, some_world(rng, made))

    def test_number_of_values(self):
        for many in range(8):
            self.assertIs(is_world(PLAIN, (row(*[1] * many), ())), many == 2)
            self.assertIs(is_world(BLOCKED, (row(*[1] * many), BLOCKED_WORLD[1])), many == 2)

    def test_number_of_levels(self):
        for blocks in ((0, 0, 0), (1, 1, 1), (0, 1, 2), (4, 0, 0), (3, 3, 3)):
            of = PLAIN[:2] + (blocks,)
            for many in range(8):
                self.assertIs(is_world(of, (WORLD[0], row(*[1] * many))), many == max(blocks) + 1)
        for many in range(8):
            self.assertIs(is_world(PLAIN, (WORLD[0], row(*[1] * many))), many == 0)

    def test_fractions(self):
        for value in FRACTIONS:
            for at in ((0, 0), (0, 1), (1, 0), (1, 2)):
                self.yes(BLOCKED, exchanged(BLOCKED_WORLD, at, value))
        for value in NO_FRACTIONS:
            for at in ((0, 0), (0, 1), (1, 0), (1, 2)):
                self.no(BLOCKED, exchanged(BLOCKED_WORLD, at, value))

    def test_lists_are_no_tuples(self):
        self.no(PLAIN, list(WORLD))
        self.no(PLAIN, (WORLD[0], []))
        self.no(PLAIN, (list(WORLD[0]), ()))
        for at in ((0,), (1,), (0, 0), (0, 1), (1, 0), (1, 2)):
            part = BLOCKED_WORLD
            for index in at:
                part = part[index]
            self.no(BLOCKED, exchanged(BLOCKED_WORLD, at, list(part)))

    def test_two_parts(self):
        for value in (WORLD[:1], WORLD[0], WORLD + ((),), ((), WORLD[0]), BLOCKED_WORLD):
            self.no(PLAIN, value)
        for value in (BLOCKED_WORLD[:1], BLOCKED_WORLD + ((),), BLOCKED_WORLD[::-1], WORLD):
            self.no(BLOCKED, value)

    def test_strange_values(self):
        for value in STRANGE:
            self.no(PLAIN, value)
            self.no(BLOCKED, value)
            self.no(BLOCKED, (value, BLOCKED_WORLD[1]))
            self.no(BLOCKED, (BLOCKED_WORLD[0], value))


class IsQuestion(unittest.TestCase):

    def test_right_ones(self):
        self.assertIs(is_question(PLAIN, QUESTION), True)
        for made, question in cases(4, 200):
            self.assertIs(is_question(made, question), True)

    def test_number_of_fractions(self):
        for of in (PLAIN, BLOCKED):
            for many in range(8):
                self.assertIs(is_question(of, row(*[1] * many)), many == 2)

    def test_fractions(self):
        for at in (0, 1):
            for value in FRACTIONS:
                self.assertIs(is_question(PLAIN, exchanged(QUESTION, (at,), value)), True)
            for value in NO_FRACTIONS:
                self.assertIs(is_question(PLAIN, exchanged(QUESTION, (at,), value)), False)

    def test_lists_are_no_tuples(self):
        for value in (list(QUESTION), (list(QUESTION[0]), QUESTION[1]), (QUESTION[0], list(QUESTION[1]))):
            self.assertIs(is_question(PLAIN, value), False)

    def test_strange_values(self):
        for value in STRANGE:
            self.assertIs(is_question(PLAIN, value), False)
            self.assertIs(is_question(BLOCKED, value), False)


class Levels(unittest.TestCase):

    def test_greatest_block_and_one_more(self):
        self.assertEqual(levels_of(PLAIN), 0)
        for blocks in ((0, 0, 0), (1, 0, 0), (0, 1, 2), (4, 0, 0), (0, 0, 4), (3, 3, 3), (2, 2, 2)):
            self.assertEqual(levels_of(PLAIN[:2] + (blocks,)), max(blocks) + 1)
        for made, _ in cases(5, 100):
            self.assertEqual(levels_of(made), levels(made))


class Yields(unittest.TestCase):

    def test_by_hand(self):
        self.assertEqual(yields(PLAIN, (row(2, "1/3"), ())), row(2, "1/3", 0))
        self.assertEqual(yields(BLOCKED, (row(2, "1/3"), row(5, 100, "-1/2"))), row(7, "-1/6", "-1/2"))

    def test_against_own_sums(self):
        rng = random.Random(6)
        for made, _ in cases(6, 300):
            world = some_world(rng, made)
            self.assertEqual([number(each) for each in yields(made, world)], own_yields(made, world))

    def test_kinds_of_values(self):
        rng = random.Random(7)
        for made, question in cases(7, 100):
            world = some_world(rng, made)
            told = yields(made, world)
            self.assertIs(told.__class__, tuple)
            self.assertEqual(told, tuple(pair(Fraction(*each)) for each in told))
            self.assertEqual(answer(made, question, world), pair(Fraction(*answer(made, question, world))))

    def test_great_numbers(self):
        made = (((((GREAT, 2)),), ((-1, GREAT),)), row(1, 1), (0, 1))
        world = (((-2, GREAT),), ((1, 1), (GREAT, GREAT - 1)))
        self.assertEqual([number(each) for each in yields(made, world)], own_yields(made, world))


class Answers(unittest.TestCase):

    def test_by_hand(self):
        self.assertEqual(answer(PLAIN, row(1, "1/2"), (row(2, "1/3"), ())), (13, 6))
        self.assertEqual(answer(BLOCKED, row(1, -6), (row(2, "1/3"), row(5, 6, 7))), (0, 1))

    def test_against_own_sums(self):
        rng = random.Random(8)
        for made, question in cases(8, 300):
            world = some_world(rng, made)
            self.assertEqual(number(answer(made, question, world)), own_answer(question, world))


class Plots(unittest.TestCase):

    def test_by_hand(self):
        self.assertEqual(plots_of(PLAIN, (0, 2)), trial([(1, 0), ("1/2", -3)], [1, "1/3"]))
        self.assertEqual(plots_of(BLOCKED, (1, 2)), trial([(0, 1), ("1/2", -3)], [2, "1/3"], (2, 2)))
        self.assertEqual(plots_of(BLOCKED, (0,)), trial([(1, 0)], [1], (0,)))

    def test_all_plots_are_the_trial(self):
        for made, _ in cases(9, 100):
            self.assertEqual(plots_of(made, tuple(range(len(made[0])))), made)

    def test_some_plots(self):
        rng = random.Random(10)
        for made, _ in cases(10, 200):
            lot = tuple(sorted(rng.sample(range(len(made[0])), rng.randint(1, len(made[0])))))
            rows, spreads, blocks = plots_of(made, lot)
            self.assertIs(is_trial((rows, spreads, blocks)), True)
            self.assertEqual(len(rows), len(lot))
            self.assertEqual(len(blocks), len(lot) if made[2] else 0)
            for at, plot in enumerate(lot):
                self.assertEqual((rows[at], spreads[at]), (made[0][plot], made[1][plot]))
                if made[2]:
                    self.assertEqual(blocks[at], made[2][plot])


if __name__ == "__main__":
    unittest.main()
