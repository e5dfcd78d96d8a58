"""The console: lines that ask, and their answers."""

from trialground.books import again, changed, fresh_book, sheet_in, standings_in, undone, work_of
from trialground.commands import understood
from trialground.deeds import standing_in
from trialground.errors import InvalidDeed, InvalidLines, NothingToRedo, NothingToUndo, Unfit
from trialground.factors import alike, classes, piece
from trialground.losses import spoiling
from trialground.ratios import ONE, mark_row
from trialground.sheets import sheet_or_wrong, sheet_text
from trialground.tellings import is_fair_for
from trialground.texts import fraction_text, row_words

MOST_LINES = 60
NO_QUESTION = "no such question"
NOT_TOLD = "not told"


def fresh_console():
    """A console without a book."""
    return None


def said(console, line):
    """The console behind a line, and the answer."""
    if not isinstance(line, str):
        raise InvalidLines(None)
    return _answered(console, line)


def told_all(console, lines):
    """The console behind all lines, and the tuple of the answers."""
    _check_lines(lines)
    answers = []
    for line in lines:
        console, answer = _answered(console, line)
        answers.append(answer)
    return (console, tuple(answers))


def _check_lines(lines):
    """Raise InvalidLines for no tuple of up to 60 texts."""
    if not isinstance(lines, tuple) or len(lines) > MOST_LINES:
        raise InvalidLines(None)
    for index, line in enumerate(lines):
        if not isinstance(line, str):
            raise InvalidLines(index)


def _answered(console, line):
    """The console behind a text, and the answer."""
    asked = understood(line)
    if asked is None:
        return (console, "not understood")
    word, parts = asked
    if word == "sheet":
        return _opened(console, parts[0])
    if word in ABOUT_FACTORS:
        told = ABOUT_FACTORS[word]
        return (console, told(parts[0], parts[1]))
    if console is None:
        return (console, "no sheet")
    if word in ABOUT_A_BOOK:
        look = ABOUT_A_BOOK[word]
        return (console, look(console, parts))
    if word in ("undo", "redo"):
        return _moved(console, word)
    return _changed(console, _change_of(sheet_in(console)[1], word, parts))


def _opened(console, text):
    """The fresh book of a text, and how much is in it; the console as it was for a wrong one."""
    sheet, wrong = sheet_or_wrong(text)
    if sheet is None:
        return (console, f"wrong at {wrong}")
    _, trial, questions = sheet
    return (fresh_book(sheet), f"{len(trial[0])} plots, {len(questions)} questions")


def _moved(book, word):
    """The book with its last change undone, or done again, and the answer."""
    try:
        return (undone(book) if word == "undo" else again(book), "done")
    except (NothingToUndo, NothingToRedo):
        return (book, "nothing there")


def _changed(book, change):
    """The book behind a change, and the names of its work."""
    try:
        work = work_of(book, change)
    except InvalidDeed:
        return (book, "does not fit")
    return (changed(book, change), "".join(["anew:"] + [" " + name for name in work]))


def _change_of(trial, word, parts):
    """The change that a line asks for, whether it fits or not."""
    if word == "unknown":
        return (word, parts[1], parts[0])
    if word != "put":
        return (word,) + parts
    row, block = parts
    if trial[2] == ():
        return (word, row[:-1], row[-1], None)
    # None, for what is told as no NUMBER, is no block.
    return (word, row[:-2], row[-2], block)


def _question_of(book, name):
    """The question that is kept under a name, and its standing; None."""
    for (its, question), stands in zip(sheet_in(book)[2], standings_in(book)):
        if its == name:
            return (question, stands)
    return None


def _least(book, parts):
    """The least spread of a question."""
    kept = _question_of(book, parts[0])
    return NO_QUESTION if kept is None else _least_text(kept[1])


def _least_text(stands):
    """The least spread of a standing."""
    return NOT_TOLD if stands == () else fraction_text(stands[0])


def _best(book, parts):
    """The weights of the best telling of a question."""
    kept = _question_of(book, parts[0])
    if kept is None:
        return NO_QUESTION
    return NOT_TOLD if kept[1] == () else " ".join(row_words(kept[1][1]))


def _fair(book, parts):
    """Whether weights are a fair telling for a question."""
    name, weights = parts
    kept = _question_of(book, name)
    if kept is None:
        return NO_QUESTION
    trial = sheet_in(book)[1]
    return "yes" if len(weights) == len(trial[0]) and is_fair_for(trial, kept[0], weights) else "no"


def _told(book, _):
    """The least spread of each unknown by itself."""
    names, trial = sheet_in(book)[:2]
    alone = [mark_row(len(names), {at: ONE}) for at in range(len(names))]
    least = [_least_text(standing_in(trial, question)) for question in alone]
    return "\n".join([f"{name} {text}" for name, text in zip(names, least)])


def _lost(book, parts):
    """The least lots of plots that spoil a question."""
    kept = _question_of(book, parts[0])
    if kept is None:
        return NO_QUESTION
    if kept[1] == ():
        return NOT_TOLD
    lots = spoiling(sheet_in(book)[1], kept[0])
    return "\n".join([" ".join([str(plot) for plot in lot]) for lot in lots]) if lots else "none"


def _show(book, _):
    """The text of the sheet."""
    return sheet_text(sheet_in(book)).removesuffix("\n")


def _piece_text(factors, words):
    """The runs of a piece."""
    runs = piece(factors, words)
    return "\n".join(["".join([_sign_text(sign) for sign in run]) for run in runs]) if runs else "empty"


def _classes_text(factors, words):
    """The classes of a piece."""
    try:
        lots = classes(factors, words)
    except Unfit:
        return "empty"
    return "\n".join([_class_text(factors, words, effects) for effects in lots])


def _class_text(factors, words, effects):
    """The effects of a class, each with its sign beside the first one's."""
    signs = [alike(factors, words, effects[0], effect) for effect in effects]
    return " ".join([_effect_text(effect, sign) for effect, sign in zip(effects, signs)])


def _effect_text(effect, sign):
    """An effect as in words."""
    return _sign_text(sign) + "".join([str(factor) for factor in effect])


def _sign_text(sign):
    """+ or -."""
    return "+" if sign > 0 else "-"


# Which function tells the answer about factors, and which one that about a book.
ABOUT_FACTORS = {"piece": _piece_text, "classes": _classes_text}
ABOUT_A_BOOK = {"least": _least, "best": _best, "fair": _fair, "told": _told, "lost": _lost, "show": _show}
