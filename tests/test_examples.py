"""The sessions of the interface, as they stand in the document, and those of the README."""

import pathlib
import re
import unittest

from tests.support import session_steps
from trialground import errors

TRIALS = """
>>> from trialground.trials import answer, is_question, is_trial, is_world, levels_of, plots_of, yields
>>> nil, one, two, half, third = (0, 1), (1, 1), (2, 1), (1, 2), (1, 3)
>>> scale = (((one, nil), (nil, one), (one, one)), (one, one, one), ())
>>> beds = (((one,), (nil,), (one,)), (one, two, one), (0, 0, 1))
>>> [is_trial(scale), is_trial((scale[0], (one, one, nil), ())), is_world(scale, ((one, two), ())), is_world(beds, ((one,), (nil,))), is_question(scale, (one,)), levels_of(scale), levels_of(beds)]
[True, False, True, False, False, 0, 2]
>>> [yields(scale, ((one, two), ())), yields(beds, ((two,), (one, half))), answer(scale, (one, (-1, 1)), ((one, two), ())), plots_of(beds, (1, 2))]
[((1, 1), (2, 1), (3, 1)), ((3, 1), (1, 1), (5, 2)), (-1, 1), ((((0, 1),), ((1, 1),)), ((2, 1), (1, 1)), (0, 1))]
"""

TELLINGS = """
>>> from trialground.tellings import is_fair, is_shift, spread_of, told_or_shift
>>> twice = (((one, one), (one, one)), (one, one), ())
>>> [is_fair(scale, (one, nil), (one, nil, nil)), is_fair(scale, (one, nil), (nil, (-1, 1), one)), spread_of(scale, (nil, (-1, 1), one)), is_fair(beds, (one,), (one, (-1, 1), nil)), is_fair(beds, (one,), (nil, nil, one))]
[True, True, (2, 1), True, False]
>>> [told_or_shift(scale, (one, nil))[0], told_or_shift(twice, (one, nil))[0], is_shift(twice, (one, nil), ((one, (-1, 1)), ())), is_shift(twice, (one, one), ((one, (-1, 1)), ())), spread_of(beds, (one, (-1, 1), nil))]
['told', 'shift', True, False, (3, 1)]
"""

BEST = """
>>> from trialground.best import best_telling, excess, is_load, least_spread, load_of
>>> [best_telling(scale, (one, nil)), least_spread(scale, (one, nil)), is_load(scale, best_telling(scale, (one, nil)), load_of(scale, (one, nil))), excess(scale, (one, nil), (one, nil, nil))]
[((2, 3), (-1, 3), (1, 3)), (2, 3), True, (1, 3)]
>>> [best_telling(beds, (one,)), best_telling(twice, (one, one)), least_spread(twice, (one, one))]
[((1, 1), (-1, 1), (0, 1)), ((1, 2), (1, 2)), (1, 2)]
>>> best_telling(twice, (one, nil))
raises NotTold()
"""

TABLES = """
>>> from trialground.squares import is_nowhere_below, squares_or_below, sum_at, table_of_squares
>>> from trialground.tables import spread_by_table, table_of, table_row
>>> less = (-1, 1)
>>> [table_of(scale), table_row(scale, (one, nil)), spread_by_table(scale, (one, nil)), spread_by_table(scale, (one, less))]
[(((2, 1), (1, 1)), ((1, 1), (2, 1))), ((2, 3), (-1, 3)), (2, 3), (2, 1)]
>>> [is_nowhere_below(((one, two), (two, one))), squares_or_below(((one, two), (two, one)))[0], sum_at(((one, two), (two, one)), (one, less)), table_of_squares(2, ((one, (one, one)), (two, (nil, one))))]
[False, 'below', (-2, 1), (((1, 1), (1, 1)), ((1, 1), (3, 1)))]
>>> from trialground.two import are_equally_good, compared, is_at_least_as_good
>>> few, far = (((one, nil), (nil, one)), (one, one), ()), (((one, one), (one, less)), (one, one), ())
>>> [is_at_least_as_good(scale, few), is_at_least_as_good(few, scale), compared(few, scale)[0], is_at_least_as_good(far, scale), compared(far, few)[0], are_equally_good(few, few)]
[True, False, 'not', False, 'as good', True]
>>> from trialground.together import apart, fall, square_of, together, unblocked, with_plot
>>> [table_of(apart(few, far)), fall(few, (one, nil), ((one, one), one, None)), square_of(few, ((one, one), two, None)), with_plot(few, ((one, one), one, None)) == scale]
[(((3, 1), (0, 1)), ((0, 1), (3, 1))), (1, 3), ((1, 2), ((1, 1), (1, 1))), True]
>>> from trialground.kinds import difference_spread, is_even_handed, is_of_kinds, parts_of, way_between
>>> a, b, c = (one, nil, nil), (nil, one, nil), (nil, nil, one)
>>> pairs = ((a, b, b, c, a, c), (one,) * 6, (0, 0, 1, 1, 2, 2))
>>> [table_of(pairs), is_even_handed(pairs), difference_spread(pairs, 0, 2), parts_of(pairs), way_between((pairs[0][:4], pairs[1][:4], pairs[2][:4]), 0, 2)]
[(((1, 1), (-1, 2), (-1, 2)), ((-1, 2), (1, 1), (-1, 2)), ((-1, 2), (-1, 2), (1, 1))), True, (4, 3), ((0, 1, 2),), (0, 1, 2)]
>>> [is_of_kinds(scale), table_of(unblocked(pairs))[0], table_of(together(pairs[:2] + ((0,) * 6,), (((a,), (one,), (0,)))))[1]]
[False, ((2, 1), (0, 1), (0, 1)), ((-6, 7), (10, 7), (-4, 7))]
"""

SHARES = """
>>> from trialground.shares import are_shares, bettered, is_best, own_spreads, room, share_table
>>> one, two, half, third, nil, less = (1, 1), (2, 1), (1, 2), (1, 3), (0, 1), (-1, 1)
>>> plots = (((one, nil), (nil, one), (one, one)), (one, one, one), ())
>>> even = (third, third, third)
>>> [share_table(plots, even), own_spreads(plots, even), is_best(plots, even), room(plots, even)]
[(((2, 3), (1, 3)), ((1, 3), (2, 3))), ((2, 1), (2, 1), (2, 1)), True, (1, 1)]
>>> [own_spreads(plots, (half, half, nil)), own_spreads(plots, (one, nil, nil)), bettered(plots, (half, half, nil)), room(plots, (half, half, nil)), are_shares(plots, (half, half))]
[((2, 1), (2, 1), (4, 1)), None, (((1, 3), (1, 3), (1, 3)), (4, 3)), (4, 1), False]
"""

ASKED = """
>>> from trialground.asked import best_shares, height, spread_with
>>> ramp = (((one, nil), (one, one), (one, two)), (one, one, one), ())
>>> [best_shares(ramp, (nil, one)), spread_with(ramp, (nil, one), (half, nil, half)), spread_with(ramp, (nil, one), even), spread_with(ramp, (nil, one), (one, nil, nil))]
[((1, 1), ((1, 2), (0, 1), (1, 2)), ((-1, 1), (1, 1))), (1, 1), (3, 2), None]
>>> [height(ramp, (nil, one), (less, one)), height(ramp, (nil, one), (nil, one))]
[(1, 1), None]
"""

LOSSES = """
>>> from trialground.losses import does_spoil, outlasting, spoiling, strength
>>> [does_spoil(ramp, (nil, one), (0,)), does_spoil(ramp, (nil, one), (0, 1)), spoiling(ramp, (nil, one)), strength(ramp, (nil, one)), outlasting(ramp, (nil, one), 2)]
[False, True, ((0, 1), (0, 2), (1, 2)), 1, None]
>>> [spoiling(plots, (one, nil)), strength(ramp, (nil, nil))]
[((0, 1), (0, 2)), 3]
"""

FACTORS = r"""
>>> from trialground.factors import alike, classes, effect_sign, odd_lot, piece, products, shortest
>>> words = (((0, 1, 2), 1),)
>>> [piece(3, words), products(3, words), shortest(3, words)]
[((-1, -1, 1), (-1, 1, -1), (1, -1, -1), (1, 1, 1)), (((), 1), ((0, 1, 2), 1)), 3]
>>> [effect_sign((1, -1, -1), (0, 1)), odd_lot(3, (0, 1), (1, 2)), alike(3, words, (0,), (1, 2)), alike(3, words, (0,), (1,)), classes(3, words)]
[-1, (0, 2), 1, 0, (((), (0, 1, 2)), ((0,), (1, 2)), ((0, 1), (2,)), ((0, 2), (1,)))]
>>> [piece(2, (((0,), 1), ((0,), -1))), products(2, (((0,), 1), ((0,), -1)))]
[(), (((), -1), ((), 1), ((0,), -1), ((0,), 1))]
>>> shortest(1, (((0,), 1), ((0,), -1)))
raises Unfit((((0,), 1), ((0,), -1)))
"""

PLANS = r"""
>>> from trialground.plans import balance, is_balanced, missing, sum_of, trial_of, unbalanced, words_of
>>> runs = piece(3, words)
>>> [balance(runs), is_balanced(runs, 3), sum_of(runs, (0, 1, 2)), unbalanced(runs, 3), piece(3, words_of(runs)) == runs, words_of(runs[:3]), missing(runs[:3]), missing(runs)]
[2, False, 4, (0, 1, 2), True, None, (0, 1, 2), None]
>>> [trial_of(runs[:2], ((), (0,), (1, 2))), least_spread(trial_of(runs, ((), (0,), (1,))), (nil, one, nil))]
[((((1, 1), (-1, 1), (-1, 1)), ((1, 1), (-1, 1), (-1, 1))), ((1, 1), (1, 1)), ()), (1, 4)]
"""

SHEETS = r"""
>>> from trialground.sheets import is_name, is_sheet, read_sheet, sheet_text
>>> bench = (("left", "right"), scale, (("both", (one, one)),))
>>> [is_sheet(bench), is_sheet(bench[:2]), is_name("plot"), is_name("left"), sheet_text(bench)]
[True, False, False, True, 'unknowns left right\nplain\nplot 1 0 1\nplot 0 1 1\nplot 1 1 1\nquestion both 1 1\n']
>>> [read_sheet(sheet_text(bench)) == bench, read_sheet("unknowns a\nblocks\nplot -1/2 1 0\n")]
[True, (('a',), ((((-1, 2),),), ((1, 1),), (0,)), ())]
>>> read_sheet("unknowns a\nplain\nplot 1 0\n")
raises InvalidText(2)
>>> read_sheet("unknowns a\nplain\n")
raises InvalidText(2)
"""

DEEDS = r"""
>>> from trialground.deeds import behind, fits, leaves, standing
>>> [standing(scale, (one, nil)), standing(twice, (one, nil)), leaves(scale, ("strike", 1), (one, nil)), leaves(beds, ("strike", 2), (one,))]
[((2, 3), ((2, 3), (-1, 3), (1, 3))), (), False, True]
>>> [leaves(scale, ("put", (one, nil), one, None), (one, nil)), leaves(scale, ("put", (one, two), one, None), (one, nil)), leaves(beds, ("put", (one,), one, 3), (one,))]
[False, True, True]
>>> [behind(scale, ("weigh", 0, two))[1], behind(beds, ("block", 2, 0))[2], behind(scale, ("order", (2, 0, 1)))[0], fits(scale, ("block", 0, 0)), fits(beds, ("put", (one,), one, 4))]
[((2, 1), (1, 1), (1, 1)), (0, 0, 0), (((1, 1), (1, 1)), ((1, 1), (0, 1)), ((0, 1), (1, 1))), False, True]
"""

BOOKS = r"""
>>> from trialground.books import again, changed, fresh_book, sheet_in, standings_in, undone, work_of
>>> book = fresh_book(bench)
>>> lighter = changed(book, ("strike", 2))
>>> [standings_in(book), work_of(book, ("strike", 2)), standings_in(lighter), undone(lighter)[0] == book[0], again(undone(lighter)) == lighter]
[(((2, 3), ((1, 3), (1, 3), (2, 3))),), ('both',), (((2, 1), ((1, 1), (1, 1))),), True, True]
>>> [work_of(book, ("unknown", (one, one, (-1, 1)), "more")), sheet_in(changed(book, ("drop", "both")))[2]]
[(), ()]
>>> undone(book)
raises NothingToUndo()
"""

CONSOLE = r"""
>>> from trialground.console import fresh_console, said, told_all
>>> lines = ("sheet unknowns left right ; plain ; plot 1 0 1 ; plot 0 1 1 ; plot 1 1 1 ; question both 1 1", "least both", "best both", "fair both 1 1 0", "told", "lost both", "strike 2", "least both", "undo", "weigh 7 1", "drop both", "least both", "piece 2 +01", "classes 2 +01", "piece 1 +0 -0")
>>> told_all(fresh_console(), lines)[1]
('3 plots, 1 questions', '2/3', '1/3 1/3 2/3', 'yes', 'left 2/3\nright 2/3', '0 2\n1 2', 'anew: both', '2', 'done', 'does not fit', 'anew:', 'no such question', '--\n++', '+ +01\n+0 +1', 'empty')
>>> [said(fresh_console(), "told")[1], said(fresh_console(), "sheet unknowns")[1], said(fresh_console(), "piece 2 +2")[1]]
['no sheet', 'wrong at 0', 'not understood']
"""

CHECKER = r"""
>>> from trialground.checker import accepts
>>> [accepts(("alike", 3, words, (0,), (1, 2), 1), (0,)), accepts(("apart", 3, words, (0,), (1,)), (runs[0], runs[1])), accepts(("no piece", runs[:3]), (0, 1, 2)), accepts(("balanced", runs, 3), ()), accepts("told", ())]
[True, True, True, False, False]
"""

CERTIFICATES = r"""
>>> from trialground.certificates import certify_balance, certify_best, certify_change, certify_effects, certify_good, certify_losses, certify_piece, certify_read, certify_told
>>> [certify_told(scale, (one, nil))[0][0], certify_told(twice, (one, nil))[0][0], certify_effects(3, words, (0,), (1,))[0][0], certify_effects(3, words, (0,), (1, 2))[0][5], certify_piece(runs[:3])[1], certify_balance(runs, 3)[1]]
['told', 'not told', 'apart', 1, (0, 1, 2), (0, 1, 2)]
>>> [certify_read("unknowns\n"), certify_change(scale, ("strike", 3))[0][0], certify_good(scale, twice)[0][0], certify_losses(scale, (one, one), 1)[0][0], accepts(*certify_best(scale, (one, one)))]
[(('not read', 'unknowns\n', 0), ()), 'no change', 'not as good', 'outlasts', True]
"""


class Examples(unittest.TestCase):

    def test_sessions(self):
        names = {}
        parts = (TRIALS, TELLINGS, BEST, TABLES, SHARES, ASKED, LOSSES, FACTORS, PLANS, SHEETS, DEEDS, BOOKS, CONSOLE,
                 CHECKER, CERTIFICATES)
        for typed, wanted in session_steps("".join(part.lstrip("\n") for part in parts)):
            with self.subTest(typed=typed):
                self.run_step(typed, wanted, names)

    def test_readme(self):
        text = (pathlib.Path(__file__).resolve().parent.parent / "README.md").read_text(encoding="utf-8")
        names = {}
        for part in re.findall("```\n(>>> .*?)```", text, re.DOTALL):
            for typed, wanted in session_steps(part):
                self.run_step(typed, wanted, names)

    def run_step(self, typed, wanted, names):
        if wanted is None:
            exec(typed, names)
        elif wanted.startswith("raises "):
            error = eval(wanted[len("raises "):], dict(vars(errors)))
            with self.assertRaises(errors.TrialError) as caught:
                eval(typed, names)
            self.assertIs(caught.exception.__class__, error.__class__)
            self.assertEqual(vars(caught.exception), vars(error))
        else:
            self.assertEqual(repr(eval(typed, names)), wanted)


if __name__ == "__main__":
    unittest.main()
