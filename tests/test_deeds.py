"""Standings, deeds, which fit, and which leave a question (point 28)."""

import random
import unittest

from tests.deed_sums import own_along, own_leaves, own_made, own_standing, own_standing_along, some_deed
from tests.sums import table_trial
from tests.support import STRANGE, Odd, number, row, some_question, some_row, trial
from trialground.deeds import behind, fits, leaves, standing
from trialground.errors import InvalidDeed

SCALE = trial([(1, 0), (0, 1), (1, 1)])
BEDS = trial([(1,), (0,), (1,)], [1, 2, 1], (0, 0, 1))
TWICE = trial([(1, 1), (1, 1)])
TEN = trial([(1, 0)] * 10)
FIVE = trial([(1,) * 5])
# What is no deed that fits SCALE, nor BEDS.
NO_DEEDS = STRANGE + (
    ("put",), ("strike",), ("strike", 3), ("strike", -1), ("strike", True), ("strike", "0"), ("strike", (0,)), ["strike", 0],
    ("strike", None), ("strike", 0, 0), ("Strike", 0), (b"strike", 0), ("strike ", 0), ("strike", 10 ** 399), ("strike", [0]),
    ("weigh", 0), ("weigh", 0, (0, 1)), ("weigh", 0, (-1, 2)), ("weigh", 0, (2, 2)), ("weigh", 0, 1), ("weigh", 0, [1, 1]),
    ("weigh", 3, (1, 1)), ("weigh", -1, (1, 1)), ("weigh", False, (1, 1)), ("weigh", 0, (True, 1)), ("weigh", 0, (1, 1), ()),
    ("weigh", (1, 1), 0), ("block", 0), ("block", 3, 0), ("block", -1, 0), ("block", 0, 5), ("block", 0, -1), ("block", 0, True),
    ("block", 0, None), ("block", 0, "0"), ("block", 0, (0,)), ("block", True, 0), ("block", 0, 0, 0), ("order",),
    ("order", ()), ("order", (0, 1)), ("order", (0, 1, 2, 3)), ("order", (0, 1, 1)), ("order", (1, 2, 3)), ("order", [0, 1, 2]),
    ("order", (0, True, 2)), ("order", (False, 1, 2)), ("order", (0, 1, -1)), ("order", 0, 1, 2), ("order", "012"),
    ("order", (0, 1, (2,))), ("order", (0, 1, None)), ("order", {0: 1, 1: 2, 2: 0}), ("order", range(3)), ("order", (0, 1, 2), ()),
    ("unknown",), ("unknown", row(1, 1)), ("unknown", row(1, 1, 1, 1)), ("unknown", list(row(1, 1, 1))), ("unknown", (1, 1, 1)),
    ("unknown", row(1, 1) + ((2, 2),)), ("unknown", row(1, 1, 1), "name"), ("unknown", ()), ("unknown", row(1, 1) + ((0, True),)),
    ("keep", "a", row(1, 1)), ("drop", "a"), ("undo",), ("", 0), ((), 0), (("strike", 0),), ("strike", "strike"),
    (Odd(), 0), ("strike", Odd()), ("weigh", Odd(), (1, 1)), ("weigh", 0, Odd()), ("block", Odd(), 0), ("block", 0, Odd()),
    ("order", Odd()), ("order", (0, 1, Odd())), ("unknown", Odd()), ("put", Odd(), (1, 1), None), ("put", row(1, 1), Odd(), None),
    ("put", row(1, 1), (1, 1), Odd()),
)


def deeds_with(kind, seed, many):
    """Trials with questions and deeds of a kind that fit, the same for each seed."""
    rng = random.Random(seed)
    k = 0
    while many:
        k += 1
        made = table_trial(rng, 1 + k % 5, rng.choice((1, 2, 3, rng.randint(1, 10))), k % 2 == 0)
        deed = some_deed(rng, made, 0)
        if deed[0] == kind and own_made(made, deed) is not None:
            many -= 1
            yield made, deed, some_question(rng, made)


class Fits(unittest.TestCase):

    def test_by_hand(self):
        self.assertEqual(behind(SCALE, ("put", row(2, 3), (1, 2), None)),
                         trial([(1, 0), (0, 1), (1, 1), (2, 3)], [1, 1, 1, "1/2"]))
        self.assertEqual(behind(BEDS, ("put", row(2), (1, 2), 4)),
                         trial([(1,), (0,), (1,), (2,)], [1, 2, 1, "1/2"], (0, 0, 1, 4)))
        self.assertEqual(behind(BEDS, ("strike", 2)), trial([(1,), (0,)], [1, 2], (0, 0)))
        self.assertEqual(behind(SCALE, ("strike", 0)), trial([(0, 1), (1, 1)]))
        self.assertEqual(behind(SCALE, ("weigh", 1, (7, 3))), trial([(1, 0), (0, 1), (1, 1)], [1, "7/3", 1]))
        self.assertEqual(behind(BEDS, ("block", 0, 4)), trial([(1,), (0,), (1,)], [1, 2, 1], (4, 0, 1)))
        self.assertEqual(behind(BEDS, ("order", (2, 0, 1))), trial([(1,), (1,), (0,)], [1, 1, 2], (1, 0, 0)))
        self.assertEqual(behind(BEDS, ("unknown", row(5, 6, 7))), trial([(1, 5), (0, 6), (1, 7)], [1, 2, 1], (0, 0, 1)))

    def test_what_is_none(self):
        for made in (SCALE, BEDS):
            for value in NO_DEEDS:
                self.assertIs(fits(made, value), False)
                with self.assertRaises(InvalidDeed) as caught:
                    behind(made, value)
                self.assertIs(caught.exception.given, value)
        for value in (("put", row(1, 1), (1, 1), 0), ("put", row(1), (1, 1), None), ("put", row(1, 1), (0, 1), None),
                      ("put", row(1, 1), (-1, 1), None), ("put", row(1, 1), (1, 1)), ("put", row(1, 1), (1, 1), False),
                      ("put", list(row(1, 1)), (1, 1), None), ("put", row(1, 1), (1, 1), None, None), ("block", 0, 0)):
            self.assertIs(fits(SCALE, value), False)
        for value in (("put", row(1), (1, 1), None), ("put", row(1, 1), (1, 1), 0), ("put", row(1), (1, 1), 5),
                      ("put", row(1), (1, 1), -1), ("put", row(1), (1, 1), True), ("put", row(1), (2, 4), 0)):
            self.assertIs(fits(BEDS, value), False)

    def test_at_the_edges(self):
        self.assertIs(fits(TEN, ("put", row(1, 1), (1, 1), None)), False)
        self.assertIs(fits(behind(TEN, ("strike", 9)), ("put", row(1, 1), (1, 1), None)), True)
        self.assertIs(fits(FIVE, ("unknown", row(1))), False)
        self.assertIs(fits(FIVE, ("strike", 0)), False)
        self.assertIs(fits(trial([(1,)], [1], (3,)), ("strike", 0)), False)
        self.assertIs(fits(trial([(1,)], [1], (3,)), ("block", 0, 0)), True)
        self.assertIs(fits(trial([(1, 2, 3, 4)]), ("unknown", row(1))), True)
        self.assertIs(fits(FIVE, ("order", (0,))), True)

    def test_all_kinds_of_deeds(self):
        rng = random.Random(1)
        met = {}
        for k in range(3000):
            made = table_trial(rng, 1 + k % 5, rng.choice((1, 2, 9, 10, rng.randint(1, 10))), k % 2 == 0)
            deed = some_deed(rng, made, 0.4)
            wanted = own_made(made, deed)
            met[deed[0], wanted is None] = met.get((deed[0], wanted is None), 0) + 1
            self.assertIs(fits(made, deed), wanted is not None)
            if wanted is None:
                self.assertRaises(InvalidDeed, behind, made, deed)
            else:
                self.assertEqual(repr(behind(made, deed)), repr(wanted))
        self.assertEqual(len(met), 12)
        self.assertGreater(min(met.values()), 40)


class Standings(unittest.TestCase):

    def test_by_hand(self):
        self.assertEqual(standing(SCALE, row(0, 0)), ((0, 1), row(0, 0, 0)))
        self.assertEqual(standing(BEDS, row(2)), ((12, 1), row(2, -2, 0)))
        self.assertEqual(standing(TWICE, row(1, 0)), ())

    def test_against_own_sums(self):
        rng = random.Random(2)
        told = 0
        for k in range(400):
            made = table_trial(rng, 1 + k % 5, rng.randint(1, 10), k % 2 == 0)
            question = some_question(rng, made)
            stands = own_standing(made, question)
            told += stands != ()
            self.assertEqual(standing(made, question), stands)
        self.assertTrue(100 < told < 390)


class Leaves(unittest.TestCase):

    def check(self, made, deed, question):
        """Whether it is left, by own equations, and what the point tells of its standing then; whether it is."""
        left = own_leaves(made, deed, question)
        self.assertIs(leaves(made, deed, question), left)
        ahead = own_standing(made, question)
        later = own_standing(own_made(made, deed), own_along(deed, question))
        if left:
            self.assertEqual(later, own_standing_along(deed, ahead))
            self.assertEqual(standing(behind(made, deed), own_along(deed, question)), later)
        elif deed[0] == "put":
            self.assertTrue(ahead == () or number(later[0]) < number(ahead[0]))
        elif deed[0] in ("strike", "unknown"):
            self.assertTrue(later == () or number(later[0]) > number(ahead[0]))
        elif deed[0] == "weigh":
            greater = number(deed[2]) > number(made[1][deed[1]])
            self.assertTrue((number(later[0]) > number(ahead[0])) == greater and later[0] != ahead[0])
        return left

    def check_kind(self, kind, seed, many, least):
        met = {(left, told): 0 for left in (True, False) for told in (True, False)}
        for made, deed, question in deeds_with(kind, seed, many):
            told = own_standing(made, question) != ()
            met[self.check(made, deed, question), told] += 1
        self.assertGreaterEqual(min(met[each] for each in least), 20, met)
        self.assertEqual(sum(met[each] for each in met if each not in least), 0)

    def test_put(self):
        self.check_kind("put", 3, 500, ((True, True), (False, True), (False, False)))

    def test_strike(self):
        self.check_kind("strike", 4, 300, ((True, True), (False, True), (True, False)))

    def test_weigh(self):
        self.check_kind("weigh", 5, 300, ((True, True), (False, True), (True, False)))

    def test_block(self):
        self.check_kind("block", 6, 300, ((True, True), (False, True), (True, False), (False, False)))

    def test_order(self):
        self.check_kind("order", 7, 200, ((True, True), (True, False)))

    def test_unknown(self):
        self.check_kind("unknown", 8, 300, ((True, True), (False, True), (True, False)))

    def test_put_in_blocks(self):
        rng = random.Random(9)
        met = {True: 0, False: 0}
        for _ in range(200):
            made = table_trial(rng, rng.randint(1, 3), rng.randint(2, 6), True)
            for block in range(5):
                new, question = rng.choice((rng.choice(made[0]), some_row(rng, len(made[0][0]), 1))), some_question(rng, made)
                left = self.check(made, ("put", new, (1, 2), block), question)
                if own_standing(made, question) != ():
                    met[left] += 1
                    # In a block without plots, beyond the greatest number or below it, some level does.
                    self.assertTrue(left or block in made[2])
        self.assertGreater(min(met.values()), 60)

    def test_what_stands_there_already(self):
        for made in (SCALE, BEDS):
            for question in (row(*[1] * len(made[0][0])), row(*[0] * len(made[0][0]))):
                for plot in range(3):
                    self.assertIs(leaves(made, ("weigh", plot, made[1][plot]), question), True)
        for plot in range(3):
            for block in range(5):
                self.assertIs(leaves(BEDS, ("block", plot, block), row(1)), block == BEDS[2][plot])
                # The block is another one, though the plot has no weight: it is looked at anew.
                self.assertIs(leaves(BEDS, ("block", plot, block), row(0)), block == BEDS[2][plot])

    def test_what_is_not_told(self):
        asked = row(1, 0)
        self.assertIs(leaves(TWICE, ("put", row(1, 1), (1, 1), None), asked), False)
        self.assertIs(leaves(TWICE, ("put", row(0, 0), (1, 1), None), asked), False)
        for deed in (("strike", 0), ("weigh", 0, (2, 1)), ("order", (1, 0)), ("unknown", row(0, 1))):
            self.assertIs(leaves(TWICE, deed, asked), True)


if __name__ == "__main__":
    unittest.main()
