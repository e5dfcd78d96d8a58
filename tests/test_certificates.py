"""Certificates: of two claims that exclude one another the one that is so, with a paper that the checker takes (point 31)."""

import random
import unittest

from tests.claim_cases import some_asked, some_shares
from tests.claim_sums import behind, greatest_own_spread, is_of_kinds, own_accepts, share_matrix, unknowns
from tests.console_sums import own_spoils
from tests.deed_sums import own_standing, some_deed
from tests.factor_sums import own_alike, own_is_balanced, own_is_piece, own_piece, some_effect, some_plan, word_cases
from tests.sheet_sums import BENCH, own_read, own_text, some_sheet
from tests.sums import (determinant, is_nowhere_below_by_minors, minus_matrix, own_least_spread, own_table, some_even_table,
                        table_from, table_trial)
from tests.support import STRANGE, row, trial
from tests.test_asked import asked_cases
from tests.test_kinds import own_parts, some_trials_of_kinds
from tests.test_losses import loss_cases, lots
from tests.test_two import a_pair
from trialground import certificates
from trialground.certificates import (certify_asked, certify_balance, certify_best, certify_change, certify_effects, certify_good,
                                      certify_losses, certify_piece, certify_read, certify_shares, certify_spread,
                                      certify_table, certify_told, certify_way)
from trialground.checker import accepts
from trialground.errors import InvalidText, NotTold, TrialError


class Certificates(unittest.TestCase):

    def setUp(self):
        self.met = {}

    def check(self, function, arguments, kind, *told):
        """The claim is of the kind that is so, tells the arguments and what is told, and its paper is accepted."""
        answer = function(*arguments)
        self.assertEqual((answer.__class__, len(answer)), (tuple, 2))
        claim, paper = answer
        self.assertEqual(claim[0], kind)
        self.assertEqual(len(claim), 1 + len(arguments) + len(told))
        for part, argument in zip(claim[1:], arguments):
            self.assertIs(part, argument)
        for part, wanted in zip(claim[1 + len(arguments):], told):
            self.assertEqual(repr(part), repr(wanted))
        self.assertTrue(own_accepts(claim, paper), answer)
        self.assertIs(accepts(claim, paper), True)
        self.met[kind] = self.met.get(kind, 0) + 1

    def check_met(self, least, *kinds):
        self.assertEqual(sorted(self.met), sorted(kinds))
        self.assertGreaterEqual(min(self.met.values()), least, self.met)

    def test_told(self):
        rng = random.Random(1)
        for _ in range(300):
            made, question = some_asked(rng, 10)
            told = own_least_spread(made, question) is not None
            self.check(certify_told, (made, question), "told" if told else "not told")
        self.check_met(40, "told", "not told")

    def test_best_and_spread(self):
        rng, untold = random.Random(2), 0
        for _ in range(300):
            made, question = some_asked(rng, 10)
            stands = own_standing(made, question)
            if stands:
                self.check(certify_best, (made, question), "best telling", stands[1])
                self.check(certify_spread, (made, question), "least spread", stands[0])
            else:
                untold += 1
                self.assertRaises(NotTold, certify_best, made, question)
                self.assertRaises(NotTold, certify_spread, made, question)
        self.assertGreater(untold, 40)
        self.check_met(40, "best telling", "least spread")

    def test_tables(self):
        rng = random.Random(3)
        for k in range(300):
            matrix = own_table(table_trial(rng, 1 + k % 5, rng.randint(1, 6), False)) if k % 2 else some_even_table(rng, 1 + k % 5)
            so = is_nowhere_below_by_minors(matrix)
            self.check(certify_table, (table_from(matrix),), "nowhere below" if so else "below somewhere")
        self.check_met(40, "nowhere below", "below somewhere")

    def test_two_trials(self):
        rng = random.Random(4)
        for k in range(300):
            one, other = a_pair(rng, k)
            good = is_nowhere_below_by_minors(minus_matrix(own_table(one), own_table(other)))
            self.check(certify_good, (one, other), "at least as good" if good else "not as good")
        self.check_met(40, "at least as good", "not as good")

    def test_ways(self):
        for made in some_trials_of_kinds(5, 60):
            self.assertTrue(is_of_kinds(made))
            for kind in range(unknowns(made)):
                for other in range(unknowns(made)):
                    joined = any(kind in lot and other in lot for lot in own_parts(made))
                    self.check(certify_way, (made, kind, other), "hang together" if joined else "part")
        self.check_met(100, "hang together", "part")

    def test_shares(self):
        rng = random.Random(6)
        for k in range(300):
            made = table_trial(rng, 1 + k % 3, rng.randint(1, 5), False)
            shares = some_shares(rng, len(made[0]))
            if k % 2:
                size = unknowns(made)
                made = (tuple(row(*[int(i == j) for i in range(size)]) for j in range(size)), made[1][:1] * size, ())
                shares = row(*[f"1/{size}"] * size)
            if determinant(share_matrix(made, shares)) == 0:
                self.assertRaises(TrialError, certify_shares, made, shares)
            else:
                best = greatest_own_spread(made, shares) <= unknowns(made)
                self.check(certify_shares, (made, shares), "best of all" if best else "not best of all")
        self.check_met(40, "best of all", "not best of all")

    def test_shares_for_one_question(self):
        for made, question in asked_cases(7, 150):
            shares = certify_asked(made, question)[0][3]
            self.check(certify_asked, (made, question), "best shares", shares)
        self.check_met(150, "best shares")

    def test_losses(self):
        for made, question in loss_cases(8, 80, 6):
            spoiling = [lot for lot in lots(len(made[0])) if own_spoils(made, question, lot)]
            for many in range(len(made[0]) + 1):
                spoilt = any(len(lot) <= many for lot in spoiling)
                self.check(certify_losses, (made, question, many), "does not outlast" if spoilt else "outlasts")
        self.check_met(80, "outlasts", "does not outlast")

    def test_losses_of_ten_plots(self):
        made = trial([(1, k, k * k) for k in range(10)], None, (0,) * 10)
        for many in range(11):
            # In one block, any three plots tell all that is told, two do not.
            self.check(certify_losses, (made, row(0, 1, -3), many), "outlasts" if many < 8 else "does not outlast")
        self.check_met(3, "outlasts", "does not outlast")

    def test_effects(self):
        rng = random.Random(9)
        for factors, words in word_cases(rng, 12):
            one, other = some_effect(rng, factors), some_effect(rng, factors)
            if rng.random() < 0.3:
                other = one
            runs = own_piece(factors, words)
            sign = own_alike(runs, one, other) if runs else None
            if sign is None:
                claim, paper = certify_effects(factors, words, one, other)
                self.assertEqual(claim[:2], ("empty piece", factors))
                self.assertIs(claim[2], words)
                self.assertTrue(len(claim) == 3 and accepts(claim, paper) and own_accepts(claim, paper))
                self.met["empty piece"] = self.met.get("empty piece", 0) + 1
            elif sign == 0:
                self.check(certify_effects, (factors, words, one, other), "apart")
            else:
                self.check(certify_effects, (factors, words, one, other), "alike", sign)
        self.check_met(40, "alike", "apart", "empty piece")

    def test_plans(self):
        rng = random.Random(10)
        for k in range(500):
            runs = some_plan(rng, 1 + k % 6)
            self.check(certify_piece, (runs,), "piece" if own_is_piece(runs) else "no piece")
            many = rng.randint(1, 6)
            so = own_is_balanced(runs, many)
            self.check(certify_balance, (runs, many), "balanced" if so else "not balanced")
        self.check_met(20, "piece", "no piece", "balanced", "not balanced")

    def test_changes(self):
        rng = random.Random(11)
        for k in range(400):
            made = table_trial(rng, 1 + k % 5, rng.choice((1, 2, 10)), k % 2 == 0)
            deed = some_deed(rng, made, 0.5)
            later = behind(made, deed)
            if later is None:
                self.check(certify_change, (made, deed), "no change")
            else:
                self.check(certify_change, (made, deed), "change", later)
        for value in STRANGE:
            self.check(certify_change, (BENCH[1], value), "no change")
        self.check_met(40, "change", "no change")

    def test_texts(self):
        rng = random.Random(12)
        for _ in range(200):
            text = own_text(some_sheet(rng))
            at = rng.randrange(len(text) + 1)
            for made in (text, text[:at], text[:at] + rng.choice(" \n01/-a") + text[at:]):
                sheet, line = own_read(made)
                if sheet is None:
                    self.check(certify_read, (made,), "not read", line)
                else:
                    self.check(certify_read, (made,), "read", sheet)
        for value in STRANGE:
            if value.__class__ is not str:
                with self.assertRaises(InvalidText) as caught:
                    certify_read(value)
                self.assertIsNone(caught.exception.line)
        self.check_met(100, "read", "not read")

    def test_great_numbers(self):
        great = 10 ** 399
        made = trial([(great, 1), (1, great - 1), (great + 1, 7)], ["1/3", great, 1])
        for function in (certify_told, certify_best, certify_spread):
            self.assertIs(accepts(*function(made, row(1, great))), True)
        self.assertIs(accepts(*certify_good(made, made)), True)
        self.assertIs(accepts(*certify_table((row(great),))), True)


class All(unittest.TestCase):

    def test_each_function_is_tried_here(self):
        names = {name for name in vars(certificates) if name.startswith("certify_")}
        self.assertEqual(names, {name for name in globals() if name.startswith("certify_")})
        self.assertEqual(len(names), 14)


if __name__ == "__main__":
    unittest.main()
