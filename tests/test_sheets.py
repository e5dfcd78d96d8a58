"""Names, sheets, their texts, and at which row a text is wrong (point 27)."""

import random
import unittest

from tests.sheet_sums import BEDS, BENCH, RESERVED, own_is_name, own_read, own_text, some_sheet
from tests.support import STRANGE, row, trial
from trialground.errors import InvalidBook, InvalidText
from trialground.sheets import is_name, is_sheet, read_sheet, sheet_text

HEAD = "unknowns a b\nplain\n"
BLOCK_HEAD = "unknowns a\nblocks\n"
# What is no name.
NO_NAMES = ("", "abcdefghi", "A", "aB", "a1", "1", "a_", "a-", "a b", " a", "a ", "a\n", "\u00e9", "\u0430", "\u00df",
            "\uff41", "a\u0301", "\u00aa") + RESERVED
# Texts, each with the row at which it is wrong.
WRONG_TEXTS = (
    ("", 0), ("\n", 0), (" ", 0), ("unknowns", 0), ("unknowns\n", 0), ("unknowns a", 0), ("unknowns a\n", 1),
    ("unknowns a \nplain\n", 0), ("unknowns  a\n", 0), (" unknowns a\n", 0), ("unknown a\n", 0), ("Unknowns a\n", 0),
    ("unknowns\ta\n", 0), ("unknowns a\r\n", 0), ("unknowns a a\n", 0), ("unknowns a b c d e f\n", 0),
    ("unknowns plot\n", 0), ("unknowns a question\n", 0), ("unknowns abcdefghi\n", 0), ("unknowns A\n", 0),
    ("plain\nplot 1 1\n", 0), ("unknowns a\nplot 1 1\n", 1), ("unknowns a\nplain", 1), ("unknowns a\nplain \n", 1),
    ("unknowns a\nplain blocks\n", 1), ("unknowns a\nblock\n", 1), ("unknowns a\n\nplain\n", 1), ("unknowns a\nplain\n", 2),
    ("unknowns a\nunknowns a\nplain\n", 1), ("unknowns a\nplain\nplain\nplot 1 1\n", 2), ("unknowns a\nplain\n\n", 2),
    (HEAD + "plot 1 1 1", 2), (HEAD + "question q 1 1\n", 2), (HEAD + "plot 1 1\n", 2), (HEAD + "plot 1 1 1 1\n", 2),
    (HEAD + "plot 1 1 0\n", 2), (HEAD + "plot 1 1 -1\n", 2), (HEAD + "plot 1 1 -1/2\n", 2), (HEAD + "plot 1  1 1\n", 2),
    (HEAD + "plot 1 1 1 \n", 2), (HEAD + "plot 1 1 1\r\n", 2), (HEAD + "plot 1\t1 1\n", 2), (HEAD + "plot\n", 2),
    (HEAD + "plot 01 1 1\n", 2), (HEAD + "plot 1 00 1\n", 2), (HEAD + "plot 1/02 1 1\n", 2), (HEAD + "plot 2/4 1 1\n", 2),
    (HEAD + "plot 1/1 1 1\n", 2), (HEAD + "plot 3/1 1 1\n", 2), (HEAD + "plot 0/1 1 1\n", 2), (HEAD + "plot 0/2 1 1\n", 2),
    (HEAD + "plot -0 1 1\n", 2), (HEAD + "plot +1 1 1\n", 2), (HEAD + "plot --1 1 1\n", 2), (HEAD + "plot 1/-2 1 1\n", 2),
    (HEAD + "plot 1/0 1 1\n", 2), (HEAD + "plot 1/ 1 1\n", 2), (HEAD + "plot /2 1 1\n", 2), (HEAD + "plot - 1 1\n", 2),
    (HEAD + "plot 1/2/3 1 1\n", 2), (HEAD + "plot 1.5 1 1\n", 2), (HEAD + "plot 1_0 1 1\n", 2), (HEAD + "plot 1e1 1 1\n", 2),
    (HEAD + "plot \u0661 1 1\n", 2), (HEAD + "plot \u00b2 1 1\n", 2), (HEAD + "plot 1\u20441 1 1\n", 2),
    (HEAD + "plot \uff11 1 1\n", 2), (HEAD + "plot \u22121 1 1\n", 2), (HEAD + "plot\u00a01 1 1\n", 2),
    (HEAD + "plot 1 1 1\u2028", 2), (HEAD + "plot 1 1 1\x0b\n", 2), (HEAD + "plot 1 1 1\x85\n", 2), (HEAD + "Plot 1 1 1\n", 2),
    (HEAD + "plot 1 1 1\n\n", 3), (HEAD + "plot 1 1 1\nquestion q 1\n", 3), (HEAD + "plot 1 1 1\nquestion q 1 1 1\n", 3),
    (HEAD + "plot 1 1 1\nquestion\n", 3), (HEAD + "plot 1 1 1\nquestion q\n", 3), (HEAD + "plot 1 1 1\nquestion 1 1 1\n", 3),
    (HEAD + "plot 1 1 1\nquestion plain 1 1\n", 3), (HEAD + "plot 1 1 1\nquestion q 2/2 1\n", 3),
    (HEAD + "plot 1 1 1\nquestion q 1 1", 3), (HEAD + "plot 1 1 1\nx", 3), (HEAD + "plot 1 1 1\n ", 3),
    (HEAD + "plot 1 1 1\nquestion q 1 1\nplot 1 1 1\n", 4), (HEAD + "plot 1 1 1\nquestion q 1 1\nquestion q 1 2\n", 4),
    (HEAD + "plot 1 1 1\nquestion q 1 1\nquestion p 1 1\n", 4), (HEAD + "plot 1 1 1\nquestion ab 1 1\nquestion a 1 1\n", 4),
    (HEAD + 11 * "plot 1 1 1\n", 12),
    (HEAD + "plot 1 1 1\n" + "".join(f"question {name} 0 0\n" for name in "abcdefghi"), 11),
    (BLOCK_HEAD + "plot 1 1\n", 2), (BLOCK_HEAD + "plot 1 1 5\n", 2), (BLOCK_HEAD + "plot 1 1 -1\n", 2),
    (BLOCK_HEAD + "plot 1 1 00\n", 2), (BLOCK_HEAD + "plot 1 1 1/2\n", 2), (BLOCK_HEAD + "plot 1 1 0/1\n", 2),
    (BLOCK_HEAD + "plot 1 1 0 0\n", 2), (BLOCK_HEAD + "plot 1 0 0\n", 2), (BLOCK_HEAD + "plot 1 1 \u0661\n", 2),
    (BLOCK_HEAD + "plot 1 1 0\nplot 1 1\n", 3), ("unknowns a\nplain\nplot 1 1 0\n", 2),
)


class Names(unittest.TestCase):

    def test_names(self):
        for name in ("a", "z", "ab", "abcdefgh", "zzzzzzzz", "unknown", "plots", "questio", "block", "plainn", "aplain"):
            self.assertIs(is_name(name), True)
        for name in NO_NAMES + tuple(each for each in STRANGE if each.__class__ is not str) + (b"a", ["a"], 97):
            self.assertIs(is_name(name), False, name)

    def test_each_letter_and_each_other_sign(self):
        for code in range(0x250):
            sign = chr(code)
            for text in (sign, "a" + sign, sign + "a"):
                self.assertIs(is_name(text), own_is_name(text), repr(text))


class Sheets(unittest.TestCase):

    def check_wrong(self, value, index):
        self.assertIs(is_sheet(value), False)
        with self.assertRaises(InvalidBook) as caught:
            sheet_text(value)
        self.assertEqual(caught.exception.index, index)

    def test_what_is_none(self):
        names, made, questions = BENCH
        for value in STRANGE + (list(BENCH), BENCH[:2], BENCH + ((),), "abc"):
            if not (isinstance(value, tuple) and len(value) == 3):
                self.check_wrong(value, None)
        # Any two unlike names are right.
        strange = tuple(each for each in STRANGE if repr(each) != repr(("a", "b")))
        for wrong in strange + (list(names), ("left", "left"), ("left", "Right"), ("left", ""), ("left", None), ("left", "plot"),
                                tuple("abcdef"), "ab", {"left": 1, "right": 2}, ("left", b"right")):
            self.check_wrong((wrong, made, questions), 0)
            self.check_wrong((wrong, None, None), 0)
        for wrong in STRANGE + (list(made), trial([(1,)]), trial([(1, 1, 1)]), trial([(1, 1)] * 11), trial([(1, 1)], [0])):
            self.check_wrong((names, wrong, questions), 1)
            self.check_wrong((names, wrong, None), 1)
        self.check_wrong((names[:1], made, questions), 1)
        self.check_wrong((names + ("more",), made, questions), 1)
        for wrong in STRANGE + (list(questions), (("both",),), (["both", row(1, 1)],), (("both", row(1)),),
                                (("both", list(row(1, 1))),), (("plot", row(1, 1)),), (("b", row(1, 1)), ("a", row(1, 1))),
                                (("a", row(1, 1)), ("a", row(1, 2))), (("a", row(1, 1)), ("a", row(1, 1))),
                                tuple((name, row(0, 0)) for name in "abcdefghi"), (("a", ((2, 2), (1, 1))),),
                                (("a", row(1, 1), ()),), (("a", ((True, 1), (1, 1))),), (("", row(1, 1)),)):
            if repr(wrong) != "()":
                self.check_wrong((names, made, wrong), 2)

    def test_what_is_one(self):
        for sheet in (BENCH, BEDS, BENCH[:2] + ((),), (("a",), trial([(0,)]), ()),
                      BENCH[:2] + (tuple((name, row(0, 0)) for name in "abcdefgh"),),
                      BENCH[:2] + ((("left", row(1, 0)), ("right", row(0, 1))),),
                      (tuple("edcba"), trial([(1,) * 5] * 10, None, (0, 1, 2, 3, 4) * 2), ())):
            self.assertIs(is_sheet(sheet), True)

    def test_texts_row_by_row(self):
        self.assertEqual(sheet_text(BEDS), "unknowns a\nblocks\nplot 1 1 0\nplot 0 2 0\nplot 1 1/3 1\n"
                                           "question a -1/2\nquestion b 0\n")
        great = 10 ** 399
        made = (("x", "y"), (((((great, 1), (-great, great - 1))),), row("1/7"), ()), ())
        self.assertEqual(sheet_text(made), f"unknowns x y\nplain\nplot {great} -{great}/{great - 1} 1/7\n")

    def test_each_sheet_has_its_text(self):
        rng, texts = random.Random(1), {}
        for _ in range(500):
            sheet = some_sheet(rng)
            text = own_text(sheet)
            self.assertIs(is_sheet(sheet), True)
            self.assertEqual(sheet_text(sheet), text)
            self.assertEqual(repr(read_sheet(text)), repr(sheet))
            self.assertEqual(texts.setdefault(text, sheet), sheet)

    def test_what_is_read_tells_great_numbers(self):
        for figures in (20, 400, 1500, 3900):
            number = int("9" * figures)
            text = f"unknowns a\nplain\nplot -{number}/{number - 1} {number}\n"
            self.assertEqual(read_sheet(text), (("a",), ((((-number, number - 1),),), ((number, 1),), ()), ()))
            self.assertEqual(sheet_text(read_sheet(text)), text)


class Texts(unittest.TestCase):

    def check(self, text):
        """The sheet or the wrong row, by the test's own reading; the row."""
        sheet, line = own_read(text)
        if line is None:
            self.assertEqual(repr(read_sheet(text)), repr(sheet))
            self.assertEqual(sheet_text(sheet), text)
        else:
            with self.assertRaises(InvalidText) as caught:
                read_sheet(text)
            self.assertEqual(caught.exception.line, line, repr(text))
        return line

    def test_wrong_at_each_place(self):
        for text, line in WRONG_TEXTS:
            self.assertEqual(self.check(text), line, repr(text))

    def test_no_text(self):
        for value in STRANGE:
            if not isinstance(value, str):
                with self.assertRaises(InvalidText) as caught:
                    read_sheet(value)
                self.assertIsNone(caught.exception.line)

    def test_rows_left_out_twice_and_moved(self):
        rng = random.Random(2)
        for _ in range(200):
            lines = own_text(some_sheet(rng)).splitlines(keepends=True)
            at, to = rng.randrange(len(lines)), rng.randrange(len(lines))
            self.check("".join(lines[:at] + lines[at + 1:]))
            self.check("".join(lines[:at] + lines[at:at + 1] + lines[at:]))
            self.check("".join(lines[:at]))
            rest = lines[:at] + lines[at + 1:]
            self.check("".join(rest[:to] + lines[at:at + 1] + rest[to:]))
            other = own_text(some_sheet(rng)).splitlines(keepends=True)
            self.check("".join(lines[:at] + other[at:]))

    def test_one_sign_other_than_it_is(self):
        rng = random.Random(3)
        met = {True: 0, False: 0}
        for _ in range(300):
            text = own_text(some_sheet(rng))
            for _ in range(12):
                at, sign = rng.randrange(len(text) + 1), rng.choice("  \n\n0123456789//--+aqz\t\r\x0b\u0663\u00b2;")
                for made in (text[:at] + sign + text[at:], text[:at] + text[at + 1:], text[:at] + sign + text[at + 1:],
                             text[:at]):
                    met[self.check(made) is None] += 1
        self.assertGreater(min(met.values()), 500)

    def test_the_eleventh_plot_and_the_ninth_question(self):
        for blocks in (False, True):
            head, plot = ("unknowns a\nblocks\n", "plot 1 1 4\n") if blocks else ("unknowns a\nplain\n", "plot 1 1\n")
            self.assertIsNone(self.check(head + plot * 10))
            self.assertEqual(self.check(head + plot * 11), 12)
            self.assertEqual(self.check(head + plot * 10 + "plot\n"), 12)
            questions = [f"question {name} 1\n" for name in "abcdefghij"]
            self.assertIsNone(self.check(head + plot * 10 + "".join(questions[:8])))
            self.assertEqual(self.check(head + plot * 10 + "".join(questions[:9])), 20)
            self.assertEqual(self.check(head + plot + "".join(questions)), 11)


if __name__ == "__main__":
    unittest.main()
