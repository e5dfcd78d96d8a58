"""What is promised over all parts (points 1 and 2), by sums that the tests make themselves; from part to part."""

import random
import unittest
from fractions import Fraction
from itertools import combinations

from tests.claim_cases import MAKERS, pairs, plain_trial, some_asked, some_fair, some_shares, some_silent
from tests.claim_sums import are_full, greatest_own_spread, own_accepts, share_matrix, unknowns
from tests.console_sums import own_spoils
from tests.factor_sums import own_alike, own_odd, own_piece, own_products, some_effect, word_cases
from tests.sheet_sums import own_text, some_sheet
from tests.sums import (determinant, is_nowhere_below_by_minors, matrix_of, minus_matrix, numbers, own_least_spread, own_table,
                        product, table_trial)
from tests.support import fair_for_nothing, number, own_is_fair, own_is_shift, own_spread, pair, row, shifted, trial
from trialground.asked import best_shares, spread_with
from trialground.best import best_telling, excess, least_spread
from trialground.books import changed, fresh_book, standings_in
from trialground.certificates import certify_losses, certify_told
from trialground.checker import accepts
from trialground.console import said
from trialground.deeds import standing
from trialground.errors import NotTold
from trialground.factors import alike, products
from trialground.losses import does_spoil, outlasting, strength
from trialground.plans import trial_of
from trialground.shares import bettered, is_best, own_spreads, room
from trialground.sheets import read_sheet
from trialground.tables import spread_by_table, table_of
from trialground.tellings import is_fair, is_shift, told_or_shift
from trialground.together import apart, with_plot
from trialground.trials import answer, yields
from trialground.two import compared, is_at_least_as_good


class ToldOrShifted(unittest.TestCase):

    def test_just_one_is_so(self):
        rng = random.Random(1)
        met = {"told": 0, "shift": 0}
        for _ in range(250):
            made, question = some_asked(rng, 10)
            kind, found = told_or_shift(made, question)
            met[kind] += 1
            fair = some_fair(rng, made, question)
            self.assertEqual(kind == "told", fair is not None)
            if kind == "told":
                self.assertTrue(own_is_fair(made, question, found))
                self.check_best(rng, made, question, fair)
            else:
                self.assertTrue(own_is_shift(made, question, found))
                self.assertIs(is_shift(made, question, found), True)
                self.assertRaises(NotTold, best_telling, made, question)
                self.assertEqual((standing(made, question), spread_by_table(made, question)), ((), None))
            # What changes no plot changes no question that is told.
            world = some_silent(rng, made)
            self.assertEqual(set(yields(made, world)), {(0, 1)})
            self.assertTrue(kind == "shift" or answer(made, question, world) == (0, 1))
        self.assertGreater(min(met.values()), 25)

    def check_best(self, rng, made, question, fair):
        """One telling has the least spread; each fair one has more by the spread of what it does otherwise."""
        best, least = best_telling(made, question), least_spread(made, question)
        self.assertEqual(number(least), own_least_spread(made, question))
        self.assertEqual(own_spread(made, best), number(least))
        self.assertEqual((spread_by_table(made, question), standing(made, question)), (least, (least, best)))
        for telling in [fair, best] + [shifted(best, part, rng.choice((-2, 1))) for part in fair_for_nothing(made)]:
            self.assertIs(is_fair(made, question, telling), True)
            more = own_spread(made, pairs([number(a) - number(b) for a, b in zip(telling, best)]))
            self.assertEqual(own_spread(made, telling), number(least) + more)
            self.assertEqual(number(excess(made, question, telling)), more)
            self.assertTrue(more > 0 or telling == best)


class TwoTrials(unittest.TestCase):

    def test_just_one_is_so(self):
        rng = random.Random(2)
        met = {"as good": 0, "not": 0}
        for k in range(200):
            size = 1 + k % 4
            one, other = [table_trial(rng, size, rng.randint(1, 5), k % 8 > 3) for _ in range(2)]
            if k % 3 == 0:
                one = apart(one, other) if max(one[2] + (0,)) + max(other[2] + (0,)) < 4 else other
            answers = compared(one, other)
            met[answers[0]] += 1
            difference = minus_matrix(own_table(one), own_table(other))
            self.assertEqual(answers[0] == "as good", is_nowhere_below_by_minors(difference))
            asked = [tuple(pair(int(i == j)) for i in range(size)) for j in range(size)]
            asked += [tuple(pair(rng.randint(-2, 2)) for _ in range(size)) for _ in range(6)]
            worse = [question for question in asked if self.is_worse(one, other, question)]
            if answers[0] == "as good":
                self.assertEqual(worse, [])
            else:
                self.assertTrue(self.is_worse(one, other, answers[2]))
        self.assertGreater(min(met.values()), 50)

    def is_worse(self, one, other, question):
        """Whether the one trial tells a question worse than the other one, or alone not at all."""
        mine, its = own_least_spread(one, question), own_least_spread(other, question)
        return its is not None and (mine is None or mine > its)

    def test_with_a_plot_more_at_least_as_good(self):
        rng = random.Random(3)
        for k in range(100):
            made = table_trial(rng, 1 + k % 4, rng.randint(1, 6), k % 2 == 0)
            plot = (tuple(pair(rng.randint(-2, 2)) for _ in range(unknowns(made))), (1, 2), rng.randrange(5) if made[2] else None)
            self.assertIs(is_at_least_as_good(with_plot(made, plot), made), True)


class Shares(unittest.TestCase):

    def test_best_exactly_if_no_own_spread_is_above_the_number_of_unknowns(self):
        rng = random.Random(4)
        met = {True: 0, False: 0}
        for k in range(200):
            made, shares = self.some_full(rng, k)
            most = greatest_own_spread(made, shares)
            best = most <= unknowns(made)
            met[best] += 1
            self.assertIs(is_best(made, shares), best)
            self.assertEqual(max(map(number, own_spreads(made, shares))), most)
            own = determinant(share_matrix(made, shares))
            bound = number(room(made, shares))
            self.assertEqual(bound, (most / unknowns(made)) ** unknowns(made))
            others = [some_shares(rng, len(made[0])) for _ in range(8)]
            self.assertTrue(all(determinant(share_matrix(made, other)) <= bound * own for other in others))
            if best:
                self.assertIsNone(bettered(made, shares))
                self.assertTrue(all(determinant(share_matrix(made, other)) <= own for other in others))
            else:
                more, factor = bettered(made, shares)
                self.assertEqual(determinant(share_matrix(made, more)), number(factor) * own)
                self.assertGreater(number(factor), 1)
        self.assertGreater(min(met.values()), 30)

    def some_full(self, rng, k):
        """A trial without blocks and full shares of it; now and then one with as many plots as unknowns, shared evenly."""
        while True:
            size = 1 + k % 4
            made = table_trial(rng, size, size if k % 3 == 0 else rng.randint(size, 6), False)
            even = pairs([Fraction(1, len(made[0]))] * len(made[0]))
            shares = even if k % 3 == 0 else some_shares(rng, len(made[0]))
            if are_full(made, shares):
                return made, shares

    def test_for_one_question_with_a_barrier(self):
        rng = random.Random(5)
        met = 0
        for k in range(200):
            made = plain_trial(rng, 1 + k % 3, rng.randint(1, 6))
            weights = [rng.randint(-1, 1) for _ in made[0]]
            question = pairs([product(weights, column) for column in zip(*matrix_of(made[0]))])
            if not any(numbers(question)):
                continue
            met += 1
            size, shares, barrier = best_shares(made, question)
            self.assertTrue(all(abs(product(numbers(barrier), line)) <= 1 for line in matrix_of(made[0])))
            self.assertEqual(product(numbers(barrier), numbers(question)), number(size))
            self.assertEqual(number(spread_with(made, question, shares)), number(size) ** 2)
            for _ in range(4):
                other = spread_with(made, question, some_shares(rng, len(made[0])))
                self.assertTrue(other is None or number(other) >= number(size) ** 2)
            self.assertGreaterEqual(sum(map(abs, weights)), number(size))
        self.assertGreater(met, 100)


class LossesAndPieces(unittest.TestCase):

    def test_a_question_outlasts_or_a_lot_spoils_it(self):
        rng = random.Random(6)
        met = {True: 0, False: 0}
        for _ in range(80):
            made, question = some_asked(rng, 5)
            if own_least_spread(made, question) is None:
                self.assertRaises(NotTold, strength, made, question)
                continue
            plots = range(len(made[0]))
            for many in range(len(made[0]) + 1):
                lots = [lot for size in range(1, many + 1) for lot in combinations(plots, size)]
                spoilt = [lot for lot in lots if own_spoils(made, question, lot)]
                met[bool(spoilt)] += 1
                self.assertEqual(strength(made, question) < many, bool(spoilt))
                self.assertEqual(outlasting(made, question, many) is None, bool(spoilt))
                self.assertTrue(all(does_spoil(made, question, lot) for lot in spoilt))
                kind = "does not outlast" if spoilt else "outlasts"
                self.assertEqual(certify_losses(made, question, many)[0][0], kind)
        self.assertGreater(min(met.values()), 50)

    def test_alike_exactly_if_the_odd_lot_is_a_product(self):
        rng = random.Random(7)
        for factors, words in word_cases(rng, 6):
            runs = own_piece(factors, words)
            self.assertEqual(runs == [], ((), -1) in products(factors, words))
            for _ in range(12 if runs else 0):
                one, other = some_effect(rng, factors), some_effect(rng, factors)
                sign = alike(factors, words, one, other)
                self.assertEqual(sign, own_alike(runs, one, other))
                self.assertEqual(sign != 0, own_odd(one, other) in dict(own_products(words)))
                if len(runs) <= 10:
                    self.check_trial(tuple(runs), one, other, sign)

    def check_trial(self, runs, one, other, sign):
        """In the trial of the piece effects that are alike cannot be told by themselves, those apart with 1 over the runs."""
        if one == other:
            return
        made = trial_of(runs, (one, other))
        kind, _ = told_or_shift(made, row(1, 0))
        self.assertEqual(kind, "shift" if sign else "told")
        if sign == 0:
            self.assertEqual(least_spread(made, row(1, 0)), (1, len(runs)))
        self.assertEqual(told_or_shift(made, row(1, sign))[0], "told")


class Papers(unittest.TestCase):

    def test_what_is_accepted_is_true(self):
        rng = random.Random(8)
        for maker in MAKERS:
            for _ in range(15):
                for claim, paper in maker(rng):
                    if accepts(claim, paper):
                        self.assertTrue(own_accepts(claim, paper), (claim, paper))

    def test_just_one_of_two_things(self):
        rng = random.Random(9)
        for _ in range(80):
            made, question = some_asked(rng)
            (kind, *parts), paper = certify_told(made, question)
            self.assertIs(accepts((kind, *parts), paper), True)
            other = "told" if kind == "not told" else "not told"
            for each in (paper, some_fair(rng, made, question), some_silent(rng, made)):
                self.assertIs(accepts((other, *parts), each), False)


class FromPartToPart(unittest.TestCase):

    def test_a_text_a_sheet_a_book_and_the_console(self):
        rng = random.Random(10)
        for _ in range(60):
            text = own_text(some_sheet(rng, rng.randint(1, 3), rng.randint(2, 5), 3))
            sheet = read_sheet(text)
            book = fresh_book(sheet)
            console, _ = said(None, "sheet " + " ; ".join(text[:-1].split("\n")))
            self.assertEqual(console, book)
            self.assertEqual(said(console, "strike 0")[0], changed(book, ("strike", 0)))
            for (name, question), stands in zip(sheet[2], standings_in(book)):
                self.assertEqual(stands, standing(sheet[1], question))
                self.assertEqual(said(console, f"least {name}")[1] == "not told", stands == ())
                self.assertEqual(told_or_shift(sheet[1], question)[0] == "shift", stands == ())

    def test_nothing_is_rounded(self):
        third, great = (1, 3), 10 ** 60
        made = trial([(1, 1), (1, 2)], ["1/3", "1/7"])
        self.assertEqual(table_of(made), (row(10, 17), row(17, 31)))
        self.assertEqual(least_spread(trial([(3,)], [1]), row(1)), (1, 9))
        self.assertEqual(best_telling(trial([(1,)] * 3), row(1)), (third,) * 3)
        self.assertEqual(least_spread((((((great, great + 1)),),), row(1), ()), row(1)), ((great + 1) ** 2, great ** 2))


if __name__ == "__main__":
    unittest.main()
