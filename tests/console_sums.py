"""The tests' own console: lines are told apart by patterns, answers made from nothing; nothing here calls the package."""

import re
from fractions import Fraction
from itertools import combinations

from tests.deed_sums import own_changed, own_standing, own_standings, own_work
from tests.factor_sums import own_effects, own_piece, own_sign
from tests.sheet_sums import own_fraction_text, own_read, own_row_text, own_text
from tests.sums import matrix_of, numbers, own_solution
from tests.support import own_is_fair, pair, row

NUMBER = "(?:0|[1-9][0-9]{0,5})"
FRACTION = f"-?{NUMBER}(?:/[1-9][0-9]{{0,5}})?"
ANY = "[^ \n]+"
PATTERNS = {kind: re.compile(pattern) for kind, pattern in (
    ("sheet", f"sheet ({ANY}(?: {ANY})*)"), ("put", f"put ({FRACTION}(?: {FRACTION})+)"), ("strike", f"strike ({NUMBER})"),
    ("weigh", f"weigh ({NUMBER}) ({FRACTION})"), ("block", f"block ({NUMBER}) ({NUMBER})"),
    ("order", f"order ({NUMBER}(?: {NUMBER})*)"), ("unknown", f"unknown ({ANY}) ({FRACTION}(?: {FRACTION})*)"),
    ("keep", f"keep ({ANY}) ({FRACTION}(?: {FRACTION})*)"), ("drop", f"drop ({ANY})"), ("undo", "undo"), ("redo", "redo"),
    ("least", f"least ({ANY})"), ("best", f"best ({ANY})"), ("fair", f"fair ({ANY}) ({FRACTION}(?: {FRACTION})*)"),
    ("told", "told"), ("lost", f"lost ({ANY})"), ("show", "show"), ("piece", "piece ([1-6])((?: [+-][0-5]+){0,6})"),
    ("classes", "classes ([1-6])((?: [+-][0-5]+){0,6})"))}


class Model:
    """What a book has to be: its states, each made from nothing, and the place of the one that stands."""

    def __init__(self, sheet):
        self.earlier, self.sheet, self.later = [], sheet, []

    def change(self, sheet):
        self.earlier, self.sheet, self.later = (self.earlier + [self.sheet])[-20:], sheet, []

    def undo(self):
        self.later.insert(0, self.sheet)
        self.sheet = self.earlier.pop()

    def redo(self):
        self.earlier.append(self.sheet)
        self.sheet = self.later.pop(0)

    def book(self):
        """The whole book, from nothing."""
        states = [tuple((sheet, own_standings(sheet)) for sheet in sheets)
                  for sheets in (self.earlier, [self.sheet], self.later)]
        return (states[1][0], states[0], states[2])


def own_parts(line):
    """The kind of a line and the texts in it; None for a line that is not understood."""
    for kind, pattern in PATTERNS.items():
        told = pattern.fullmatch(line)
        if told and (kind not in ("piece", "classes") or own_words(told[1], told[2]) is not None):
            return kind, told.groups()
    return None


def own_words(many, text):
    """The words of factors in a text; None if a factor is too great, or not above the one ahead."""
    words = []
    for word in text.split():
        effect = tuple(int(figure) for figure in word[1:])
        if list(effect) != sorted(set(effect)) or effect[-1] >= int(many):
            return None
        words.append((effect, int(word[0] + "1")))
    return words


def own_told_row(text):
    return tuple(pair(Fraction(word)) for word in text.split())


def own_said(model, line):
    """The model behind a line, and the answer; a model is changed in its place."""
    told = own_parts(line)
    if told is None:
        return model, "not understood"
    kind, parts = told
    if kind == "sheet":
        sheet, wrong = own_read(parts[0].replace(" ; ", "\n") + "\n")
        if sheet is None:
            return model, f"wrong at {wrong}"
        return Model(sheet), f"{len(sheet[1][0])} plots, {len(sheet[2])} questions"
    if kind in ("piece", "classes"):
        words = own_words(*parts)
        return model, (own_piece_text if kind == "piece" else own_classes_text)(int(parts[0]), words)
    if model is None:
        return None, "no sheet"
    if kind in ("undo", "redo"):
        return model, own_moved(model, kind)
    if kind in ("told", "show"):
        return model, own_text(model.sheet)[:-1] if kind == "show" else own_told_text(model.sheet)
    if kind in ("least", "best", "fair", "lost"):
        return model, own_answer_of(model.sheet, kind, parts)
    change = own_change(model.sheet[1], kind, parts)
    made = None if change is None else own_changed(model.sheet, change)
    if made is None:
        return model, "does not fit"
    work = own_work(model.sheet, change)
    model.change(made)
    return model, "".join(["anew:"] + [f" {name}" for name in work])


def own_moved(model, kind):
    if not (model.earlier if kind == "undo" else model.later):
        return "nothing there"
    model.undo() if kind == "undo" else model.redo()
    return "done"


def own_change(some_trial, kind, parts):
    """The change that a line asks for; None for a put whose numbers are none for the trial."""
    if kind == "strike":
        return ("strike", int(parts[0]))
    if kind == "weigh":
        return ("weigh", int(parts[0]), own_told_row(parts[1])[0])
    if kind == "block":
        return ("block", int(parts[0]), int(parts[1]))
    if kind == "order":
        return ("order", tuple(int(word) for word in parts[0].split()))
    if kind == "unknown":
        return ("unknown", own_told_row(parts[1]), parts[0])
    if kind == "keep":
        return ("keep", parts[0], own_told_row(parts[1]))
    if kind == "drop":
        return ("drop", parts[0])
    words, unknowns = parts[0].split(), len(some_trial[0][0])
    if len(words) != unknowns + 1 + bool(some_trial[2]):
        return None
    told = own_told_row(" ".join(words[:unknowns + 1]))
    if not some_trial[2]:
        return ("put", told[:-1], told[-1], None)
    return ("put", told[:-1], told[-1], int(words[-1])) if words[-1].isdigit() else None


def own_told_text(sheet):
    names, some_trial, _ = sheet
    rows = []
    for at, name in enumerate(names):
        stands = own_standing(some_trial, row(*[int(k == at) for k in range(len(names))]))
        rows.append(f"{name} {own_fraction_text(stands[0]) if stands else 'not told'}")
    return "\n".join(rows)


def own_answer_of(sheet, kind, parts):
    if parts[0] not in dict(sheet[2]):
        return "no such question"
    some_trial, question = sheet[1], dict(sheet[2])[parts[0]]
    if kind == "fair":
        weights = own_told_row(parts[1])
        return "yes" if len(weights) == len(some_trial[0]) and own_is_fair(some_trial, question, weights) else "no"
    stands = own_standing(some_trial, question)
    if stands == ():
        return "not told"
    if kind == "least":
        return own_fraction_text(stands[0])
    return own_row_text(stands[1]) if kind == "best" else own_lost_text(some_trial, question)


def own_spoils(made, question, lot):
    """Whether no weights of the other plots make the question, by the test's own equations."""
    rows, blocks = matrix_of(made[0]), made[2]
    kept = [plot for plot in range(len(rows)) if plot not in lot]
    sides = numbers(question) + [0] * len(set(blocks))
    if not kept:
        return any(sides)
    lines = [[rows[plot][unknown] for plot in kept] for unknown in range(len(question))]
    lines += [[int(blocks[plot] == block) for plot in kept] for block in sorted(set(blocks))]
    return own_solution(lines, sides) is None


def own_lost_text(made, question):
    least = []
    for size in range(1, len(made[0]) + 1):
        for lot in combinations(range(len(made[0])), size):
            if not any(set(each) <= set(lot) for each in least) and own_spoils(made, question, lot):
                least.append(lot)
    return "\n".join(" ".join(map(str, lot)) for lot in sorted(least)) or "none"


def own_piece_text(factors, words):
    runs = own_piece(factors, words)
    return "\n".join("".join("-+"[sign > 0] for sign in run) for run in runs) or "empty"


def own_classes_text(factors, words):
    runs = own_piece(factors, words)
    if not runs:
        return "empty"
    lots = {}
    for effect in sorted(own_effects(factors)):
        signs = tuple(own_sign(run, effect) for run in runs)
        turned = tuple(-sign for sign in signs)
        if turned in lots:
            lots[turned].append("-" + "".join(map(str, effect)))
        else:
            lots.setdefault(signs, []).append("+" + "".join(map(str, effect)))
    return "\n".join(" ".join(lot) for lot in lots.values())
