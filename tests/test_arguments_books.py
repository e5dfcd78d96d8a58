"""What is raised for wrong arguments, in which order; how arguments are passed and kept: books, the console, the checker,
certificates."""

import unittest

from tests.calls import QUESTION_FAULTS, TRIAL_FAULTS, CallChecks, given, indexed, without
from tests.sheet_sums import BEDS, BENCH
from tests.sums import of_kinds
from tests.support import STRANGE, row, trial
from tests.test_arguments_plans import (EFFECT_FAULTS, EMPTY, FACTORS_FAULTS, MANY_FAULTS, MORE, OTHER, RUN, RUNS_FAULTS,
                                        SHEET_FAULTS, TEXT_FAULTS, WORD, WORDS_FAULTS)
from tests.test_arguments_shares import NO_NUMBERS, SHARES_FAULTS
from tests.test_arguments_tables import NO_INDEXES, WRONG_TABLES
from tests.test_books import NO_CHANGES
from trialground import books, certificates, checker, console
from trialground.errors import (InvalidDeed, InvalidLines, InvalidNumber, InvalidQuestion, InvalidTable, NotTold, TrialError,
                                Unfit)

PLAIN = trial([(1, 0), (0, 1), (1, 1)])
BLOCKED = trial([(1, 0), (0, 1), (1, 1)], [1, 2, "1/3"], (0, 0, 2))
TWICE = trial([(1, 1), (1, 1), (1, 1)])
SPREAD = trial([(1, 0), (0, 1), (1, 1)], [1, 2, "1/3"])
KINDS, PARTS = of_kinds((0, 1, 1, 2, 0, 2), 3, (0, 0, 1, 1, 2, 2)), of_kinds((0, 1, 2), 3, (0, 0, 1))
BOOK = books.fresh_book(BENCH)
UNDONE = books.undone(books.changed(books.changed(books.fresh_book(BEDS), ("weigh", 2, (1, 1))), ("drop", "a")))
NUMBER_FAULTS = given(InvalidNumber, without(STRANGE, 0, 1), NO_INDEXES)
LINES_FAULTS = indexed(InvalidLines, [(value, None) for value in STRANGE if value.__class__ is not tuple] + [
    (["undo"], None), (("undo",) * 61, None), ((None,) * 61, None), ((0,) * 1000, None), ({"undo": 1}, None), ((None,), 0),
    (("undo", None), 1), ((b"undo", "undo"), 0), (("undo", ("undo",)), 1), (("undo", ["undo"], 0), 1), (("undo",) * 59 + (1,), 59),
    ((True,), 0), (("undo", "", 0, None), 2), (((),), 0),
])


class Sheets(CallChecks, unittest.TestCase):

    functions = ((books, "fresh_book", ("sheet",)),)
    rights = ({"sheet": BENCH}, {"sheet": BEDS})
    faults = {"sheet": SHEET_FAULTS}


class Books(CallChecks, unittest.TestCase):

    functions = (
        (books, "sheet_in", ("book",)),
        (books, "standings_in", ("book",)),
        (books, "changed", ("book", "change")),
        (books, "work_of", ("book", "change")),
    )
    rights = tuple({"book": book, "change": change} for book, changes in (
        (BOOK, (("strike", 0), ("put", row(1, 1), (1, 1), None), ("keep", "more", row(1, 1)), ("drop", "both"),
                ("unknown", row(1, 1, 1), "more"))),
        (UNDONE, (("weigh", 0, (1, 7)), ("block", 1, 4), ("order", (1, 2, 0))))) for change in changes)
    faults = {"change": given(InvalidDeed, NO_CHANGES)}

    def test_no_book_is_changed(self):
        for book in (BOOK, UNDONE):
            ahead = repr(book)
            books.changed(book, ("strike", 0))
            books.work_of(book, ("strike", 0))
            self.assertEqual(repr(book), ahead)


class Moves(CallChecks, unittest.TestCase):

    functions = ((books, "undone", ("book",)), (books, "again", ("book",)))
    rights = ({"book": UNDONE}, {"book": books.undone(books.changed(UNDONE, ("drop", "b"))[:2] + (UNDONE[2],))})

    def test_nothing_there(self):
        for function, name in ((books.undone, "NothingToUndo"), (books.again, "NothingToRedo")):
            with self.assertRaises(TrialError) as caught:
                function(book=BOOK)
            self.assertEqual((caught.exception.__class__.__name__, vars(caught.exception)), (name, {}))


class Console(CallChecks, unittest.TestCase):

    functions = ((console, "said", ("console", "line")), (console, "told_all", ("console", "lines")))
    rights = ({"console": None, "line": "sheet unknowns a ; plain ; plot 1 1", "lines": ("undo", "", "piece 2 +01")},
              {"console": BOOK, "line": "strike 0", "lines": ("strike 0", "least both", "undo", "told")},
              {"console": UNDONE, "line": "redo", "lines": ()})
    faults = {"line": indexed(InvalidLines, [(value, None) for value in STRANGE if value.__class__ is not str]),
              "lines": LINES_FAULTS}

    def test_fresh(self):
        self.assertIsNone(console.fresh_console())


class Checker(CallChecks, unittest.TestCase):

    functions = ((checker, "accepts", ("claim", "paper")),)
    rights = ({"claim": ("told", PLAIN, row(1, 0)), "paper": row(1, 0, 0)}, {"claim": ("balanced", (RUN, OTHER), 1), "paper": ()})
    whatever = {"claim": (True, False), "paper": (True, False)}


class Questions(CallChecks, unittest.TestCase):

    functions = tuple((certificates, name, ("trial", "question")) for name in ("certify_told", "certify_best", "certify_spread"))
    rights = ({"trial": PLAIN, "question": row(1, 0)}, {"trial": BLOCKED, "question": row(1, -1)})
    faults = {"trial": TRIAL_FAULTS, "question": QUESTION_FAULTS}
    lasts = tuple((name, {"trial": made, "question": row(1, 0)}, NotTold, None, None)
                  for name in ("certify_best", "certify_spread") for made in (TWICE, BLOCKED))


class Tables(CallChecks, unittest.TestCase):

    functions = ((certificates, "certify_table", ("table",)),)
    rights = ({"table": (row(1, 2), row(2, 1))}, {"table": (row(0),)})
    faults = {"table": given(InvalidTable, STRANGE, WRONG_TABLES)}


class TwoTrials(CallChecks, unittest.TestCase):

    functions = ((certificates, "certify_good", ("one", "other")),)
    rights = ({"one": PLAIN, "other": SPREAD}, {"one": BLOCKED, "other": PLAIN})
    faults = {"one": TRIAL_FAULTS, "other": TRIAL_FAULTS}
    lasts = (("certify_good", {"one": PLAIN, "other": trial([(1,)])}, Unfit, "given", 1),
             ("certify_good", {"one": trial([(1,)]), "other": PLAIN}, Unfit, "given", 2))


class Kinds(CallChecks, unittest.TestCase):

    functions = ((certificates, "certify_way", ("trial", "kind", "other")),)
    rights = ({"trial": KINDS, "kind": 0, "other": 2}, {"trial": PARTS, "kind": 2, "other": 0})
    faults = {"trial": TRIAL_FAULTS + given(Unfit, (PLAIN, BLOCKED, KINDS[:2] + ((),))), "kind": NUMBER_FAULTS,
              "other": NUMBER_FAULTS}


class Shares(CallChecks, unittest.TestCase):

    functions = ((certificates, "certify_shares", ("trial", "shares")),)
    rights = ({"trial": PLAIN, "shares": row("1/2", "1/2", 0)}, {"trial": PLAIN, "shares": row("1/3", "1/3", "1/3")})
    faults = {"trial": TRIAL_FAULTS, "shares": SHARES_FAULTS}
    lasts = tuple(("certify_shares", {"trial": made, "shares": shares}, Unfit, "given", told) for made, shares, told in (
        (BLOCKED, row("1/2", "1/2", 0), BLOCKED[2]), (BLOCKED, row(1, 0, 0), BLOCKED[2])) + tuple(
            (PLAIN, shares, shares) for shares in (row(1, 0, 0), row(0, 0, 1))))


class Asked(CallChecks, unittest.TestCase):

    functions = ((certificates, "certify_asked", ("trial", "question")),)
    rights = ({"trial": PLAIN, "question": row(1, 0)}, {"trial": TWICE, "question": row(-2, -2)})
    faults = {"trial": TRIAL_FAULTS, "question": QUESTION_FAULTS + given(InvalidQuestion, (row(0, 0),))}
    lasts = tuple(("certify_asked", {"trial": made, "question": row(1, 0)}, error, attribute, told)
                  for made, error, attribute, told in ((BLOCKED, Unfit, "given", BLOCKED[2]), (SPREAD, Unfit, "given", SPREAD[1]),
                                                       (TWICE, NotTold, None, None)))


class Losses(CallChecks, unittest.TestCase):

    functions = ((certificates, "certify_losses", ("trial", "question", "many")),)
    rights = ({"trial": PLAIN, "question": row(1, 0), "many": 1}, {"trial": BLOCKED, "question": row(1, -1), "many": 3},
              {"trial": BLOCKED, "question": row(0, 0), "many": 0})
    faults = {"trial": TRIAL_FAULTS, "question": QUESTION_FAULTS, "many": given(InvalidNumber, NO_NUMBERS, (-1, 4, 10 ** 399, True))}
    lasts = tuple(("certify_losses", {"trial": made, "question": row(1, 0), "many": many}, NotTold, None, None)
                  for made in (TWICE, BLOCKED) for many in range(4))


class Effects(CallChecks, unittest.TestCase):

    functions = ((certificates, "certify_effects", ("factors", "words", "effect", "other")),)
    rights = ({"factors": 3, "words": (WORD,), "effect": (0,), "other": (2,)},
              {"factors": 3, "words": (WORD,), "effect": (0,), "other": ()},
              {"factors": 3, "words": EMPTY, "effect": (0, 2), "other": ()})
    faults = {"factors": FACTORS_FAULTS, "words": WORDS_FAULTS, "effect": EFFECT_FAULTS, "other": EFFECT_FAULTS}


class Plans(CallChecks, unittest.TestCase):

    functions = ((certificates, "certify_piece", ("runs",)), (certificates, "certify_balance", ("runs", "many")))
    rights = ({"runs": (RUN, OTHER), "many": 1}, {"runs": (RUN, RUN, MORE), "many": 6})
    faults = {"runs": RUNS_FAULTS, "many": MANY_FAULTS}


class Changes(CallChecks, unittest.TestCase):

    functions = ((certificates, "certify_change", ("trial", "value")),)
    rights = ({"trial": PLAIN, "value": ("strike", 0)}, {"trial": BLOCKED, "value": None})
    faults = {"trial": TRIAL_FAULTS}

    def test_whatever_the_value_is(self):
        for value in STRANGE:
            claim, paper = certificates.certify_change(PLAIN, value)
            self.assertTrue(claim[:2] == ("no change", PLAIN) and claim[2] is value and paper == ())
        for fault in TRIAL_FAULTS[::7]:
            self.check(certificates.certify_change, ("trial", "value"), {"trial": fault[0], "value": STRANGE[-1]}, fault)


class Texts(CallChecks, unittest.TestCase):

    functions = ((certificates, "certify_read", ("text",)),)
    rights = ({"text": "unknowns a\nplain\nplot 1 1\n"}, {"text": ""})
    # A text that is wrong at some row is no wrong argument here.
    faults = {"text": [fault for fault in TEXT_FAULTS if fault[0].__class__ is not str]}


if __name__ == "__main__":
    unittest.main()
