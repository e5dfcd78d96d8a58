"""Books of sheets that change (point 29), beside lists of states that the tests make from nothing."""

import random
import unittest

from tests.console_sums import Model
from tests.deed_sums import own_changed, own_standings, own_work, some_change
from tests.sheet_sums import BEDS, BENCH, some_sheet
from tests.support import STRANGE, Odd, row, trial
from tests.test_deeds import NO_DEEDS
from trialground.books import again, changed, fresh_book, sheet_in, standings_in, undone, work_of
from trialground.errors import InvalidDeed, NothingToRedo, NothingToUndo

EIGHT = ("abcdefgh", tuple((name, row(0, 1)) for name in "abcdefgh"))
# What is no change of the bench, nor of the beds.
NO_CHANGES = tuple(each for each in NO_DEEDS if repr(each) not in (repr(("unknown", row(1, 1, 1), "name")),
                                                                  repr(("keep", "a", row(1, 1))), repr(("drop", "a")))) + (
    ("unknown", row(1, 1, 1)), ("unknown", row(1, 1, 1), "left", ()), ("unknown", row(1, 1, 1), "plot"), ("unknown",),
    ("unknown", row(1, 1, 1), "Left"), ("unknown", row(1, 1, 1), ""), ("unknown", row(1, 1, 1), None), ("unknown", "up", row(1, 1, 1)),
    ("unknown", row(1, 1, 1), ("up",)), ("unknown", row(1, 1), "up"), ("unknown", row(1, 1, 1, 1), "up"), ("unknown", None, "up"),
    ("unknown", list(row(1, 1, 1)), "up"), ["unknown", row(1, 1, 1), "up"], ("unknown", row(1, 1, 1), b"up"),
    ("keep",), ("keep", "up"), ("keep", "up", row(1, 1, 1)), ("keep", "up", ()), ("keep", "plot", row(1, 1)), ("keep", "Up", row(1, 1)),
    ("keep", "", row(1, 1)), ("keep", None, row(1, 1)), ("keep", ("up",), row(1, 1)), ("keep", "up", list(row(1, 1))),
    ("keep", "up", None), ("keep", row(1, 1), "up"), ("keep", "up", row(1, 1), ()), ["keep", "up", row(1, 1)],
    ("keep", "up", ((1, 1), (2, 2))), ("drop",), ("drop", "up"), ("drop", None), ("drop", ("both",)), ("drop", "both", ()),
    ("drop", b"both"), ["drop", "both"], ("drop", ""), ("drop", 0), ("dropped", "both"), ("undo",), ("redo",), ("sheet",),
    ("drop", Odd()), ("keep", Odd(), row(1, 1)), ("keep", "up", Odd()), ("unknown", Odd(), "up"), ("unknown", row(1, 1, 1), Odd()),
)


def state(sheet):
    return (sheet, own_standings(sheet))


class Books(unittest.TestCase):

    def check(self, book, model, whole=False):
        self.assertEqual(repr(sheet_in(book)), repr(model.sheet))
        self.assertEqual(standings_in(book), own_standings(model.sheet))
        self.assertEqual(book[0], (sheet_in(book), standings_in(book)))
        self.assertEqual([sheet for sheet, _ in book[1]], model.earlier)
        self.assertEqual([sheet for sheet, _ in book[2]], model.later)
        if whole:
            made = tuple(tuple(state(sheet) for sheet in sheets) for sheets in (model.earlier, model.later))
            self.assertEqual(repr(book), repr((state(model.sheet),) + made))

    def check_change(self, book, model, change):
        """The book behind a change, with its work, or what is raised for one that does not fit."""
        made = own_changed(model.sheet, change)
        if made is None:
            for function in (changed, work_of):
                with self.assertRaises(InvalidDeed) as caught:
                    function(book, change)
                self.assertIs(caught.exception.given, change)
            return book
        self.assertEqual(work_of(book, change), own_work(model.sheet, change))
        model.change(made)
        return changed(book, change)

    def test_fresh_books(self):
        rng = random.Random(1)
        for sheet in [some_sheet(rng) for _ in range(100)] + [BENCH, BEDS]:
            book = fresh_book(sheet)
            self.assertEqual(repr(book), repr((state(sheet), (), ())))
            self.assertIs(sheet_in(book), sheet)
            self.assertRaises(NothingToUndo, undone, book)
            self.assertRaises(NothingToRedo, again, book)

    def test_all_changes_undone_and_done_again_in_any_order(self):
        rng = random.Random(2)
        met = {}
        for k in range(60):
            model = Model(some_sheet(rng, rng.randint(1, 3), rng.randint(1, 5), 4 if k % 4 else 8))
            book = fresh_book(model.sheet)
            for _ in range(30):
                move = rng.choice(("change",) * 5 + ("undo",) * 2 + ("redo",) * 2)
                if move == "change":
                    change = some_change(rng, model.sheet, 0.2)
                    ahead = model.sheet
                    book = self.check_change(book, model, change)
                    kind = (change[0], model.sheet is not ahead)
                    met[kind] = met.get(kind, 0) + 1
                elif move == "undo" and model.earlier:
                    book = undone(book)
                    model.undo()
                elif move == "redo" and model.later:
                    book = again(book)
                    model.redo()
                elif move == "undo":
                    self.assertRaises(NothingToUndo, undone, book)
                else:
                    self.assertRaises(NothingToRedo, again, book)
                self.check(book, model)
            self.check(book, model, True)
        self.assertEqual(len(met), 2 * 8, met)
        self.assertGreater(min(met.values()), 5)

    def test_more_than_twenty_changes(self):
        rng = random.Random(3)
        for _ in range(6):
            model = Model(some_sheet(rng, 2, 3, 3))
            book = fresh_book(model.sheet)
            while len(model.earlier) < 20:
                book = self.check_change(book, model, some_change(rng, model.sheet))
            for _ in range(rng.randint(1, 8)):
                book = self.check_change(book, model, some_change(rng, model.sheet))
                self.assertEqual(len(book[1]), 20)
            self.check(book, model, True)
            for left in range(19, -1, -1):
                book = undone(book)
                model.undo()
                self.assertEqual((len(book[1]), len(book[2])), (left, 20 - left))
            self.check(book, model, True)
            self.assertRaises(NothingToUndo, undone, book)
            for _ in range(20):
                book = again(book)
                model.redo()
            self.check(book, model, True)
            self.assertRaises(NothingToRedo, again, book)

    def test_a_change_behind_undone_ones(self):
        book = fresh_book(BENCH)
        for plot in (2, 1):
            book = changed(book, ("strike", plot))
        book = changed(undone(undone(book)), ("drop", "both"))
        self.assertEqual((len(book[1]), book[2]), (1, ()))
        self.assertRaises(NothingToRedo, again, book)
        self.assertEqual(sheet_in(undone(book)), BENCH)

    def test_what_does_not_change_anything_is_a_change_all_the_same(self):
        book = changed(fresh_book(BENCH), ("order", (0, 1, 2)))
        self.assertEqual(book, (state(BENCH), (state(BENCH),), ()))
        self.assertEqual(work_of(book, ("weigh", 0, (1, 1))), ())
        self.assertEqual(len(changed(book, ("weigh", 0, (1, 1)))[1]), 2)


class Changes(unittest.TestCase):

    def test_what_is_none(self):
        for sheet in (BENCH, BEDS[:2] + ((("c", row(1)),),)):
            book = fresh_book(sheet)
            for change in NO_CHANGES:
                for function in (changed, work_of):
                    with self.assertRaises(InvalidDeed) as caught:
                        function(book, change)
                    self.assertIs(caught.exception.given, change)

    def test_keep(self):
        book = fresh_book(BENCH)
        kept = changed(book, ("keep", "left", row(1, 0)))
        self.assertEqual(sheet_in(kept)[2], (("both", row(1, 1)), ("left", row(1, 0))))
        self.assertEqual(standings_in(kept)[1], ((2, 3), row("2/3", "-1/3", "1/3")))
        self.assertEqual(work_of(book, ("keep", "left", row(1, 0))), ("left",))
        # In the place of what had the name, the same question, too.
        for question in (row(1, 1), row(0, "1/2")):
            self.assertEqual(work_of(book, ("keep", "both", question)), ("both",))
            self.assertEqual(sheet_in(changed(book, ("keep", "both", question)))[2], (("both", question),))
        self.assertEqual(sheet_in(changed(book, ("keep", "a", row(0, 0))))[2], (("a", row(0, 0)), ("both", row(1, 1))))

    def test_keep_a_ninth_one(self):
        book = fresh_book(BENCH[:2] + EIGHT[1:])
        for name in EIGHT[0]:
            self.assertEqual(dict(sheet_in(changed(book, ("keep", name, row(5, 5))))[2])[name], row(5, 5))
        self.assertRaises(InvalidDeed, changed, book, ("keep", "i", row(0, 1)))
        self.assertRaises(InvalidDeed, work_of, book, ("keep", "i", row(0, 1)))
        less = changed(book, ("drop", "d"))
        self.assertEqual([name for name, _ in sheet_in(changed(less, ("keep", "i", row(0, 1))))[2]], list("abcefghi"))

    def test_drop(self):
        book = fresh_book(BENCH[:2] + EIGHT[1:])
        for at, name in enumerate(EIGHT[0]):
            self.assertEqual(work_of(book, ("drop", name)), ())
            less = changed(book, ("drop", name))
            self.assertEqual(sheet_in(less)[2], EIGHT[1][:at] + EIGHT[1][at + 1:])
            self.assertRaises(InvalidDeed, changed, less, ("drop", name))

    def test_unknown(self):
        book = fresh_book(BENCH)
        more = changed(book, ("unknown", row(1, 1, -1), "both"))
        self.assertEqual(sheet_in(more)[0], ("left", "right", "both"))
        self.assertEqual(sheet_in(more)[2], (("both", row(1, 1, 0)),))
        for name in ("left", "right", "plot", "toolongname", "", "A", None):
            self.assertRaises(InvalidDeed, changed, book, ("unknown", row(1, 1, 1), name))
        for name in ("c", "d"):
            more = changed(more, ("unknown", row(0, 0, 0), name))
        self.assertRaises(InvalidDeed, changed, more, ("unknown", row(0, 0, 0), "e"))
        self.assertEqual(own_standings(sheet_in(more)), standings_in(more))

    def test_work(self):
        names, made, _ = BENCH
        book = fresh_book((names, made, (("a", row(0, 0)), ("b", row(1, 0)), ("c", row(0, 1)))))
        self.assertEqual(work_of(book, ("strike", 2)), ("b", "c"))
        self.assertEqual(work_of(book, ("put", row(0, 0), (1, 1), None)), ())
        self.assertEqual(work_of(book, ("put", row(1, 2), (1, 1), None)), ("c",))
        self.assertEqual(work_of(book, ("weigh", 0, (2, 1))), ("b", "c"))
        self.assertEqual(work_of(book, ("order", (2, 1, 0))), ())
        self.assertEqual(work_of(book, ("unknown", row(1, 1, 1), "d")), ("b", "c"))
        untold = fresh_book((names, trial([(1, 1)]), (("a", row(1, 0)), ("b", row(1, 1)))))
        # Some load of b's best telling has all of it on the first unknown.
        self.assertEqual(work_of(untold, ("put", row(0, 1), (1, 1), None)), ("a",))
        self.assertEqual(work_of(untold, ("put", row(2, 2), (1, 1), None)), ("a", "b"))
        self.assertEqual(work_of(untold, ("weigh", 0, (2, 1))), ("b",))

    def test_work_in_blocks(self):
        book = fresh_book(BEDS)
        self.assertEqual(work_of(book, ("block", 2, 0)), ("a", "b"))
        self.assertEqual(work_of(book, ("block", 2, 1)), ())
        self.assertEqual(work_of(book, ("put", row(7), (1, 1), 4)), ())
        self.assertEqual(work_of(book, ("put", row(7), (1, 1), 0)), ("a",))
        self.assertEqual(work_of(book, ("strike", 2)), ())


class Strange(unittest.TestCase):

    def test_what_was_passed_is_told(self):
        book = fresh_book(BENCH)
        for value in STRANGE + (NO_CHANGES[-1],):
            with self.assertRaises(InvalidDeed) as caught:
                changed(change=value, book=book)
            self.assertIs(caught.exception.given, value)


if __name__ == "__main__":
    unittest.main()
