"""The console: lines and their answers (point 30)."""

import random
import unittest

from tests.console_sums import own_parts, own_said
from tests.deed_sums import some_change
from tests.sheet_sums import own_fraction_text, own_row_text, own_rows_of, some_sheet
from tests.support import STRANGE, row, some_fraction
from trialground.books import fresh_book
from trialground.console import fresh_console, said, told_all
from trialground.errors import InvalidLines
from trialground.sheets import read_sheet

SCALE = "sheet unknowns left right ; plain ; plot 1 0 1 ; plot 0 1 1 ; plot 1 1 1 ; question both 1 1"
BEDS = "sheet unknowns a ; blocks ; plot 1 1 0 ; plot 0 2 0 ; plot 1 1 1 ; question q 1/2 ; question r 0"
# Lines that are not understood, whatever the console is.
NOT_UNDERSTOOD = (
    "", " ", "  ", "\n", "x", "Undo", "undo ", " undo", "undo\n", "\nundo", "undo undo", "undo x", "undo\t", "redo ", "redo 1",
    "sheet", "sheet ", " sheet x", "sheet  x", "sheet x ", "sheet x  y", "sheet x\n", "sheet unknowns a ; plain ; plot 1 1 ; ",
    "sheet\tx", "sheets x", "put", "put 1", "put 1 ", "put 1  1", "put  1 1", "put 1 x", "put a 1 1", "put 1 1/0", "put 1/00 1",
    "put 01 1", "put 1 1/02", "put 1 +1", "put 1 --1", "put 1 1/-2", "put 1 -", "put 1 /2", "put 1 1/", "put 1 1/2/3",
    "put 1 1.5", "put 1 1234567", "put 1 1/1234567", "put 1 -1234567", "put 1 \u0661", "put 1 \u00b2", "put 1 1\n", "put 1\n1",
    "put 1 1_0", "put 1 1e3", "put 1 0x1", "put 1 00", "put 1 -00", "put 1 0/0", "strike", "strike 0 1", "strike -1", "strike 1/2",
    "strike 00", "strike 01", "strike x", "strike 1234567", "strike +1", "strike \u0660", "strike 0\t", "weigh", "weigh 0",
    "weigh 0 1 1", "weigh -0 1", "weigh 0/1 1", "weigh 0 x", "weigh x 1", "weigh 00 1", "weigh 0 1/0", "block", "block 0",
    "block 0 0 0", "block 0 -0", "block 0 1/1", "block 0 x", "block -1 0", "block 0 00", "order", "order x", "order 0 x", "order -1",
    "order 0 1/1", "order 00 1", "order 0 1234567", "unknown", "unknown c", "unknown c x", "unknown c 1 x", "unknown c 1/0",
    "keep", "keep c", "keep c x", "keep c 1 01", "keep c 1 1/0", "keep c 1 ", "drop", "drop c d", "drop ", "least", "least c d",
    "least ", "best", "best c d", "fair", "fair c", "fair c x", "fair c 1 2/", "fair c 1 00", "told c", "told ", "lost", "lost c d",
    "show c", "show ", "shows", "piece", "piece 0", "piece 7", "piece 01", "piece x", "piece -1", "piece 1/1", "piece 10", "piece 2 x",
    "piece 2 +", "piece 2 -", "piece 2 01", "piece 2 +2", "piece 2 +10", "piece 2 +00", "piece 2 +0 +", "piece 2 +0 ++1", "piece 6 +6",
    "piece 6 +0 +0 +0 +0 +0 +0 +0", "piece 2 +0,1", "piece 2 + 0", "piece 2 +0 x", "piece 3 +0-1", "piece 2 +\u0660", "piece 2 +\u00b2",
    "piece +0", "piece +0 2", "piece  2", "piece 2  +0", "piece 2 \u22120", "classes", "classes 0", "classes 7", "classes 2 +2",
    "classes 2 +", "classes 3 +21", "classes 6 +0 +1 +2 +3 +4 +5 +0", "classes x", "classes 2 2", "fresh", "help", "told\x0b", "quit",
)
# Lines that are understood, but without a book answered by "no sheet".
UNDERSTOOD = (
    "put 1 1", "put -1/2 0 3/6 999999", "put 1 2 3 4 5 6 7 8 9 10 11 12", "put -0 0/5", "strike 0", "strike 999999", "weigh 0 1",
    "weigh 7 -1/2", "weigh 0 0", "block 0 0", "block 9 999999", "order 0", "order 2 2 2", "unknown c 1", "unknown plot -1/2 3",
    "unknown 1 1", "keep c 1", "keep c\t 1 2 3", "keep ; 1", "drop c", "drop 1/2", "drop \u00e9", "undo", "redo", "least c", "best ;",
    "fair c 1", "fair c -0 0/1 2/4", "told", "lost c", "lost -1", "show",
)


class Understood(unittest.TestCase):

    def consoles(self):
        for line in (SCALE, BEDS):
            yield said(fresh_console(), line)[0]

    def test_what_is_not(self):
        for line in NOT_UNDERSTOOD:
            self.check_not(line)

    def check_not(self, line):
        self.assertIsNone(own_parts(line), line)
        self.assertEqual(said(None, line), (None, "not understood"), repr(line))
        for console in self.consoles():
            self.assertEqual(said(console, line), (console, "not understood"), repr(line))

    def test_a_number_has_up_to_six_figures(self):
        for words in ("strike {}", "put 1 {}", "put 1/{} 1", "put -{} 1", "weigh {} 1", "weigh 0 1/{}", "block {} 0", "block 0 {}",
                      "order 0 {}", "unknown c {}", "keep c 1 {}", "fair c -1/{}"):
            self.assertIsNotNone(own_parts(words.format("9" * 6)))
            self.assertNotEqual(said(None, words.format("9" * 6))[1], "not understood")
            for figures in (7, 8, 400, 3000):
                self.check_not(words.format("9" * figures))

    def test_without_a_book(self):
        self.assertIsNone(fresh_console())
        for line in UNDERSTOOD:
            self.assertIsNotNone(own_parts(line), line)
            self.assertEqual(said(None, line), (None, "no sheet"), repr(line))
            for console in self.consoles():
                self.assertNotIn(said(console, line)[1], ("no sheet", "not understood"))

    def test_words_left_out_twice_put_in_and_another_way(self):
        rng = random.Random(1)
        met = {True: 0, False: 0}
        lines = [line for line in UNDERSTOOD] + ["piece 3 +01 -2", "classes 4 -0123", "piece 6", SCALE, BEDS]
        for line in lines:
            words = line.split(" ")
            for at in range(len(words)):
                for new in ([], [words[at]] * 2, [words[at], "x"], [""], ["0"], ["-" + words[at]], ["0" + words[at]],
                            [words[at] + rng.choice("019/-+;\n\t ax")], [words[at][:-1]], [words[at].upper()]):
                    made = " ".join(words[:at] + new + words[at + 1:])
                    wanted = own_said(None, made)[1]
                    met[wanted == "not understood"] += 1
                    self.assertEqual(said(None, made)[1], wanted, repr(made))
        self.assertGreater(min(met.values()), 200)

    def test_no_lines(self):
        for value in STRANGE:
            if not isinstance(value, str):
                with self.assertRaises(InvalidLines) as caught:
                    said(None, value)
                self.assertIsNone(caught.exception.index)
            if not isinstance(value, tuple):
                with self.assertRaises(InvalidLines) as caught:
                    told_all(None, value)
                self.assertIsNone(caught.exception.index)
        for lines, index in ((("undo",) * 61, None), ((1,) * 61, None), (["undo"], None), (("undo", 1), 1), ((None, "undo"), 0),
                             (("undo", b"undo", 1), 1), (("undo",) * 59 + ((),), 59), (("undo", ["undo"]), 1)):
            with self.assertRaises(InvalidLines) as caught:
                told_all(None, lines)
            self.assertEqual(caught.exception.index, index)
        self.assertEqual(told_all(None, ()), (None, ()))
        self.assertEqual(told_all(None, ("undo",) * 60), (None, ("no sheet",) * 60))


class Dialogues(unittest.TestCase):

    def check(self, lines, answers):
        """Line by line, and all at once; the last console."""
        console = fresh_console()
        for line, answer in zip(lines, answers):
            console, told = said(console, line)
            self.assertEqual(told, answer, line)
        self.assertEqual(told_all(fresh_console(), tuple(lines)), (console, tuple(answers)))
        return console

    def test_changes_of_a_plain_sheet(self):
        self.check(
            (SCALE, "put 1 2 1", "least both", "put 1 2 1 0", "put 1 2", "put 1 2 0", "put 1 2 -1", "put 1 2 1/2", "strike 5",
             "strike 4", "strike 3", "block 0 0", "order 2 1 0", "order 0 1", "order 0 1 1", "order 0 1 2 3", "show", "weigh 2 2",
             "weigh 2 4/2", "weigh 2 0", "weigh 2 -1", "weigh 3 1", "show"),
            ("3 plots, 1 questions", "anew: both", "1/3", "does not fit", "does not fit", "does not fit", "does not fit",
             "anew: both", "does not fit", "anew: both", "anew: both", "does not fit", "anew:", "does not fit", "does not fit",
             "does not fit", "unknowns left right\nplain\nplot 1 1 1\nplot 0 1 1\nplot 1 0 1\nquestion both 1 1", "anew: both",
             "anew:", "does not fit", "does not fit", "does not fit",
             "unknowns left right\nplain\nplot 1 1 1\nplot 0 1 1\nplot 1 0 2\nquestion both 1 1"))

    def test_changes_of_a_sheet_with_blocks(self):
        self.check(
            (BEDS, "put 1 1", "put 1 1 5", "put 1 1 0/1", "put 1 1 -0", "put 1 1 2/2", "put 1 1 1/2", "put 1 1 4", "put 2 2/4 0",
             "block 0 5", "block 9 0", "block 0 0", "block 0 1", "show", "least q", "told", "undo", "least q"),
            ("3 plots, 2 questions",) + ("does not fit",) * 6 + (
                "anew:", "anew: q", "does not fit", "does not fit", "anew:", "anew: q r",
                "unknowns a\nblocks\nplot 1 1 1\nplot 0 2 0\nplot 1 1 1\nplot 1 1 4\nplot 2 1/2 0\n"
                "question q 1/2\nquestion r 0", "5/32", "a 5/8", "done", "7/52"))

    def test_unknowns_and_kept_questions(self):
        self.check(
            (SCALE, "unknown more 1 1", "unknown more 1 1 1 1", "unknown left 1 1 1", "unknown plot 1 1 1", "unknown A 1 1 1",
             "unknown more 0 0 -4/2", "show", "keep new 1 0", "keep new 1 0 0", "keep question 1 0 0", "keep 9 1 0 0",
             "keep more 0 0 2/6", "least new", "least more", "best more", "drop none", "drop both", "drop both", "show", "told"),
            ("3 plots, 1 questions",) + ("does not fit",) * 5 + (
                "anew: both", "unknowns left right more\nplain\nplot 1 0 0 1\nplot 0 1 0 1\nplot 1 1 -2 1\nquestion both 1 1 0",
                "does not fit", "anew: new", "does not fit", "does not fit", "anew: more", "1", "1/12", "1/6 1/6 -1/6",
                "does not fit", "anew:", "does not fit",
                "unknowns left right more\nplain\nplot 1 0 0 1\nplot 0 1 0 1\nplot 1 1 -2 1\nquestion more 0 0 1/3\n"
                "question new 1 0 0", "left 1\nright 1\nmore 3/4"))

    def test_questions(self):
        self.check(
            ("sheet unknowns a b ; plain ; plot 1 1 1 ; plot 2 2 1 ; question nil 0 0 ; question no 1 0 ; question yes 1 1",
             "least no", "best no", "lost no", "fair no 1 0", "least nil", "best nil", "lost nil", "fair nil 0 0", "fair nil 2 -1",
             "fair nil 2 -2/1", "least yes", "best yes", "lost yes", "fair yes 1 0", "fair yes -3/3 1", "fair yes 1", "fair yes 1 0 0",
             "least maybe", "best maybe", "lost maybe", "fair maybe 1 0", "least 1", "told", "fair yes -0 1/2"),
            ("2 plots, 3 questions", "not told", "not told", "not told", "no", "0", "0 0", "none", "yes", "yes", "no", "1/5",
             "1/5 2/5", "0 1", "yes", "yes", "no", "no", "no such question", "no such question", "no such question",
             "no such question", "no such question", "a not told\nb not told", "yes"))

    def test_undo_and_redo(self):
        lines = [SCALE, "undo", "redo"] + [f"weigh 0 {k}" for k in range(2, 24)] + ["undo"] * 21 + ["least both", "redo", "least both"]
        lines = lines[:60]
        answers = ["3 plots, 1 questions", "nothing there", "nothing there"] + ["anew: both"] * 22 + ["done"] * 20 + [
            "nothing there", "4/5", "done", "5/6"]
        self.check(lines, answers)
        self.check((SCALE, "strike 2", "undo", "drop both", "redo", "undo", "redo", "redo", BEDS, "undo", "redo"),
                   ("3 plots, 1 questions", "anew: both", "done", "anew:", "nothing there", "done", "done", "nothing there",
                    "3 plots, 2 questions", "nothing there", "nothing there"))

    def test_a_plot_for_each_place(self):
        plot = " ; plot 1 1"
        self.check(("sheet unknowns a ; plain" + plot * 10, "put 1 1", "strike 9", "put 1 1", "put 1 1", "strike 10"),
                   ("10 plots, 0 questions", "does not fit", "anew:", "anew:", "does not fit", "does not fit"))
        self.check(("sheet unknowns a b c d e ; plain ; plot 1 1 1 1 1 1", "unknown f 1", "strike 0", "put 1 1 1 1 1 1"),
                   ("1 plots, 0 questions", "does not fit", "does not fit", "anew:"))

    def test_random_dialogues(self):
        rng = random.Random(2)
        met = {}
        for _ in range(60):
            console, model = None, None
            lines, answers = [], []
            for k in range(25):
                line = some_line(rng, model, k)
                model, answer = own_said(model, line)
                console, told = said(console, line)
                self.assertEqual(told, answer, repr(line))
                kind = (line.split(" ")[0], answer.split(" ")[0] if answer in ANSWERS else "told")
                met[kind] = met.get(kind, 0) + 1
                lines.append(line)
                answers.append(answer)
            self.assertEqual(told_all(None, tuple(lines)), (console, tuple(answers)))
            self.assertEqual(repr(console), repr(model if model is None else model.book()))
        for word in ("put", "strike", "weigh", "block", "order", "unknown", "keep", "drop"):
            self.assertGreater(min(met.get((word, "does"), 0), met.get((word, "told"), 0)), 2, word)


ANSWERS = ("does not fit", "not understood", "no sheet", "nothing there", "no such question", "not told", "done")


def in_any_terms(rng, ratio):
    """The fraction as a FRACTION, now and then not in lowest terms."""
    times = rng.choice((1, 1, 2, 3))
    if abs(ratio[0]) > 300000 or ratio[1] > 300000:
        return own_fraction_text(ratio)
    return f"{ratio[0] * times}/{ratio[1] * times}" if times > 1 or rng.random() < 0.1 else own_fraction_text(ratio)


def line_of(rng, change):
    """The line that asks for a change."""
    kind, *parts = change
    if kind == "unknown":
        parts = parts[::-1]
    words = [kind]
    for at, part in enumerate(parts):
        if part is None:
            continue
        if kind == "order":
            words += [str(plot) for plot in part]
        elif part.__class__ is tuple and part and part[0].__class__ is tuple:
            words += [in_any_terms(rng, ratio) for ratio in part]
        elif part.__class__ is tuple and len(part) == 2:
            words.append(in_any_terms(rng, part))
        else:
            words.append(str(part))
    return " ".join(words)


def some_line(rng, model, k):
    """A line: a sheet first, then changes and questions, now and then something wrong."""
    if k == 0 or rng.random() < 0.02:
        sheet = some_sheet(rng, rng.randint(1, 3), rng.randint(1, 5), 4)
        return "sheet " + " ; ".join(own_rows_of(sheet))
    if model is None or rng.random() < 0.05:
        return rng.choice(UNDERSTOOD + NOT_UNDERSTOOD)
    name = rng.choice([name for name, _ in model.sheet[2]] + ["none"])
    plots = len(model.sheet[1][0])
    if rng.random() < 0.6:
        return line_of(rng, some_change(rng, model.sheet, 0.2))
    weights = own_row_text([some_fraction(rng, 1) for _ in range(plots)])
    return rng.choice(("undo", "redo", "undo", f"least {name}", f"best {name}", f"fair {name} {weights}", "told",
                       f"lost {name}", "show"))


class SheetLines(unittest.TestCase):

    def test_wrong_at_each_row(self):
        for text, line in (
                ("x", 0), (";", 0), ("; plain", 0), ("unknowns", 0), ("unknowns a", 1), ("unknowns a ;", 0), ("unknowns a; plain", 0),
                ("unknowns a ; plain", 2), ("unknowns a ; plain ; plot 1 1 ;", 2), ("unknowns a ; ; plain", 1),
                ("unknowns a ; plain ; ; plot 1 1", 2), ("unknowns a ; plain ; plot 1", 2), ("unknowns a ; plain ; plot 1 2/2", 2),
                ("unknowns a ; plain ; plot 1 1 ; plot 1 0", 3), ("unknowns a ; plain ; plot 1 1 ; question q 1 ; plot 1 1", 4),
                ("unknowns a ; plain ; plot 1 1 ; question q 1 ; question q 1", 4), ("unknowns a ; plain ; plot 1 1 ; ;", 3),
                ("unknowns a ;plain ; plot 1 1", 0), ("unknowns a ; plain" + " ; plot 1 1" * 11, 12), ("; ; ;", 0), ("; ;", 0),
                ("unknowns a ; plain ; plot 1 1\t; plot 1 1", 2), ("unknowns a ; plain ; plot 1 -0", 2)):
            for console in (None, said(None, SCALE)[0]):
                self.assertEqual(said(console, "sheet " + text), (console, f"wrong at {line}"), text)

    def test_what_is_read_is_a_fresh_book(self):
        rng = random.Random(3)
        console = None
        for _ in range(60):
            sheet = some_sheet(rng)
            line = "sheet " + " ; ".join(own_rows_of(sheet))
            console, answer = said(console, line)
            self.assertEqual(answer, f"{len(sheet[1][0])} plots, {len(sheet[2])} questions")
            self.assertEqual(console, fresh_book(sheet))
            self.assertEqual(read_sheet(said(console, "show")[1] + "\n"), sheet)

    def test_numbers_of_a_sheet_may_be_great(self):
        number = "9" * 50
        console, answer = said(None, f"sheet unknowns a ; plain ; plot {number} 1 ; question q -{number}")
        self.assertEqual(answer, "1 plots, 1 questions")
        self.assertEqual(said(console, "best q"), (console, "-1"))
        self.assertEqual(said(console, f"keep q {number}"), (console, "not understood"))


class FactorLines(unittest.TestCase):

    def test_by_hand(self):
        for line, answer in (
                ("piece 1", "-\n+"), ("piece 1 +0", "+"), ("piece 1 -0", "-"), ("piece 1 -0 -0", "-"), ("piece 1 -0 +0", "empty"),
                ("classes 1", "+\n+0"), ("classes 1 -0", "+ -0"), ("classes 1 -0 +0", "empty"),
                ("piece 3 +012 -01", "-+-\n+--"), ("classes 2 -01", "+ -01\n+0 -1"),
                ("classes 3 -01 +12", "+ -01 -02 +12\n+0 +012 -1 -2"), ("piece 2 +0 +0 +0 +0 +0 +0", "+-\n++"),
                ("piece 2 -0 +0 +0 +0 +0 +0", "empty")):
            for console in (None, said(None, BEDS)[0]):
                self.assertEqual(said(console, line), (console, answer))

    def test_pieces_and_classes(self):
        rng = random.Random(4)
        met = {True: 0, False: 0}
        for k in range(400):
            factors = 1 + k % 6
            words = ["".join([rng.choice("+-")] + [str(factor) for factor in sorted(rng.sample(range(6), rng.randint(1, 4)))])
                     for _ in range(rng.randint(0, 7))]
            for kind in ("piece", "classes"):
                line = " ".join([kind, str(factors)] + words)
                wanted = own_said(None, line)[1]
                met[wanted == "not understood"] += 1
                self.assertEqual(said(None, line), (None, wanted), line)
        self.assertGreater(min(met.values()), 100)


class Kept(unittest.TestCase):

    def test_a_console_is_a_book(self):
        book = fresh_book(read_sheet("unknowns a\nplain\nplot 2 1\nquestion q 1\n"))
        self.assertEqual(said(book, "best q"), (book, "1/2"))
        self.assertEqual(said(line="least q", console=book), (book, "1/4"))
        self.assertEqual(told_all(lines=("told", "show"), console=book)[1], ("a 1/4", "unknowns a\nplain\nplot 2 1\nquestion q 1"))
        self.assertEqual(said(book, "put -1/2 3")[0][0][0][1][0], (row(2), row("-1/2")))


if __name__ == "__main__":
    unittest.main()
