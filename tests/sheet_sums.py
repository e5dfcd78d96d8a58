"""The tests' own sheets and their texts; nothing here calls the package."""

import math
import re

from tests.sums import table_trial
from tests.support import row, some_question, some_row

RESERVED = ("unknowns", "plain", "blocks", "plot", "question")


def own_is_name(text):
    return bool(re.fullmatch("[a-z]{1,8}", text)) and text not in RESERVED


def own_fraction(word):
    """The fraction that a word of a sheet's text tells; None for any that does not stand so in such a text."""
    told = re.fullmatch(r"(0|-?[1-9][0-9]*)(?:/([1-9][0-9]*))?", word)
    if not told:
        return None
    above, below = int(told[1]), int(told[2] or 1)
    if told[2] is not None and (below == 1 or math.gcd(above, below) > 1):
        return None
    return (above, below)


def own_fraction_text(ratio):
    return f"{ratio[0]}" if ratio[1] == 1 else f"{ratio[0]}/{ratio[1]}"


def own_row_text(some_row_of_pairs):
    return " ".join(own_fraction_text(each) for each in some_row_of_pairs)


def own_rows_of(sheet):
    """The rows of a sheet's text, without their ends."""
    names, (rows, spreads, blocks), questions = sheet
    lines = ["unknowns " + " ".join(names), "blocks" if blocks else "plain"]
    for plot in range(len(rows)):
        line = f"plot {own_row_text(rows[plot])} {own_fraction_text(spreads[plot])}"
        lines.append(f"{line} {blocks[plot]}" if blocks else line)
    return lines + [f"question {name} {own_row_text(question)}" for name, question in questions]


def own_text(sheet):
    return "".join(line + "\n" for line in own_rows_of(sheet))


def own_read(text):
    """(SHEET, None), or (None, the first wrong row)."""
    lines = re.findall(r"[^\n]*\n", text)
    names, form, plots, questions = None, None, [], []
    for at, line in enumerate(lines):
        word, *words = line[:-1].split(" ")
        if at == 0:
            names = tuple(words)
            right = word == "unknowns" and 1 <= len(words) <= 5 and len(set(words)) == len(words)
            right = right and all(own_is_name(name) for name in words)
        elif at == 1:
            form = line[:-1]
            right = form in ("plain", "blocks")
        elif word == "plot" and not questions:
            plot = own_plot(words, len(names), form)
            plots.append(plot)
            right = plot is not None and len(plots) <= 10
        else:
            told = tuple(own_fraction(each) for each in words[1:])
            right = word == "question" and plots != [] and len(questions) < 8 and len(told) == len(names)
            right = right and None not in told and own_is_name(words[0])
            right = right and (not questions or questions[-1][0] < words[0])
            questions.append((words[0] if words else "", told))
        if not right:
            return (None, at)
    if not plots or not text.endswith("\n"):
        return (None, len(lines))
    trial = tuple(zip(*[plot[:2] for plot in plots])) + (tuple(block for plot in plots for block in plot[2]),)
    return ((names, trial, tuple(questions)), None)


def own_plot(words, unknowns, form):
    """The row, the spread and the block, in a tuple, that words tell; None."""
    told = tuple(own_fraction(each) for each in words[:unknowns + 1])
    blocks = tuple(words[unknowns + 1:])
    if len(told) != unknowns + 1 or None in told or told[-1][0] <= 0 or len(blocks) != (form == "blocks"):
        return None
    if not set(blocks) <= set("01234"):
        return None
    return (told[:-1], told[-1], tuple(int(block) for block in blocks))


def some_names(rng, many):
    names = []
    while len(names) < many:
        name = "".join(rng.choice("abcxyz") for _ in range(rng.choice((1, 2, 8, rng.randint(1, 8)))))
        if name not in names:
            names.append(name)
    return tuple(names)


def some_sheet(rng, unknowns=None, plots=None, most=8):
    """A sheet, with blocks or without, with up to so many questions."""
    unknowns = rng.randint(1, 5) if unknowns is None else unknowns
    plots = rng.choice((1, 2, 10, rng.randint(1, 10))) if plots is None else plots
    trial = table_trial(rng, unknowns, plots, rng.random() < 0.5)
    if rng.random() < 0.2:
        rows = tuple(some_row(rng, unknowns, 10 ** rng.choice((1, 30))) for _ in trial[0])
        trial = (rows,) + trial[1:]
    names = some_names(rng, unknowns)
    kept = list(some_names(rng, rng.choice((0, 1, most, rng.randint(0, most)))))
    if kept and names[0] not in kept and rng.random() < 0.3:
        # A question may be named as an unknown is.
        kept[0] = names[0]
    questions = tuple((name, some_question(rng, trial)) for name in sorted(kept))
    return (names, trial, questions)


BENCH = (("left", "right"), ((row(1, 0), row(0, 1), row(1, 1)), row(1, 1, 1), ()), (("both", row(1, 1)),))
BEDS = (("a",), ((row(1), row(0), row(1)), row(1, 2, "1/3"), (0, 0, 1)), (("a", row("-1/2")), ("b", row(0))))
