"""Sheets: trials with names for their unknowns and with named questions, and their texts."""

from trialground.errors import InvalidBook, InvalidText
from trialground.texts import fraction_of, number_of, row_words
from trialground.trials import MOST_PLOTS, MOST_UNKNOWNS, is_block, is_question_of, is_trial

MOST_LETTERS = 8
MOST_QUESTIONS = 8
LETTERS = "abcdefghijklmnopqrstuvwxyz"
NO_NAMES = ("unknowns", "plain", "blocks", "plot", "question")


def is_sheet(value):
    """Tell whether a value, whatever it is, is a sheet."""
    return _is_triple(value) and _wrong_part(value) is None


def is_name(value):
    """Tell whether a value, whatever it is, is a name."""
    if not isinstance(value, str) or not 1 <= len(value) <= MOST_LETTERS:
        return False
    return all(letter in LETTERS for letter in value) and value not in NO_NAMES


def sheet_text(sheet):
    """The text of a sheet."""
    check_sheet(sheet)
    names, (rows, spreads, blocks), questions = sheet
    lines = [["unknowns", *names], ["blocks" if blocks else "plain"]]
    for plot, row in enumerate(rows):
        its_block = [str(blocks[plot])] if blocks else []
        lines.append(["plot"] + row_words(row + (spreads[plot],)) + its_block)
    for name, question in questions:
        lines.append(["question", name] + row_words(question))
    return "".join([" ".join(words) + "\n" for words in lines])


def read_sheet(text):
    """The sheet of a text."""
    if not isinstance(text, str):
        raise InvalidText(None)
    sheet, wrong = sheet_or_wrong(text)
    if sheet is None:
        raise InvalidText(wrong)
    return sheet


def check_sheet(sheet):
    """Raise InvalidBook for no sheet."""
    if not _is_triple(sheet):
        raise InvalidBook(None)
    wrong = _wrong_part(sheet)
    if wrong is not None:
        raise InvalidBook(wrong)


def sheet_or_wrong(text):
    """The sheet of a text, and None; or None, and the row at which the text is wrong."""
    *rows, rest = text.split("\n")
    draft = Draft()
    for at, row in enumerate(rows):
        if not draft.takes(row.split(" ")):
            return (None, at)
    # What stands behind the last end of a row is a row without an end.
    if rest != "" or not draft.is_enough():
        return (None, len(rows))
    return (draft.sheet(), None)


class Draft:
    """What the rows of a sheet's text have told, up to some row."""

    def __init__(self):
        self.names = ()
        self.form = ""
        self.rows = []
        self.spreads = []
        self.blocks = []
        self.questions = []

    def takes(self, words):
        """Take in the words of one row more; False, and nothing taken, if no text goes on with them."""
        if self.names == ():
            return self._takes_names(words)
        if self.form == "":
            return self._takes_form(words)
        if words[0] == "plot":
            return self._takes_plot(words[1:])
        return words[0] == "question" and self._takes_question(words[1:])

    def is_enough(self):
        """Tell whether a text may end here."""
        return len(self.rows) > 0

    def sheet(self):
        """The sheet of what was told."""
        trial = (tuple(self.rows), tuple(self.spreads), tuple(self.blocks))
        return (self.names, trial, tuple(self.questions))

    def _takes_names(self, words):
        names = tuple(words[1:])
        if words[0] != "unknowns" or not _are_names(names):
            return False
        self.names = names
        return True

    def _takes_form(self, words):
        if words not in (["plain"], ["blocks"]):
            return False
        self.form = words[0]
        return True

    def _takes_plot(self, words):
        many = len(self.names)
        row = _row_of(words[:many + 1])
        blocks = [number_of(word) for word in words[many + 1:]]
        if self.questions or len(self.rows) == MOST_PLOTS:
            return False
        if row is None or len(row) != many + 1 or row[many][0] <= 0:
            return False
        if len(blocks) != int(self.form == "blocks") or not all(is_block(block) for block in blocks):
            return False
        self.rows.append(row[:many])
        self.spreads.append(row[many])
        self.blocks.extend(blocks)
        return True

    def _takes_question(self, words):
        question = _row_of(words[1:])
        ahead = self.questions[-1][0] if self.questions else ""
        if self.rows == [] or len(self.questions) == MOST_QUESTIONS or words == []:
            return False
        if not is_name(words[0]) or words[0] <= ahead or question is None or len(question) != len(self.names):
            return False
        self.questions.append((words[0], question))
        return True


def _is_triple(value):
    """Tell whether a value is a tuple of three."""
    return isinstance(value, tuple) and len(value) == 3


def _wrong_part(value):
    """The first of three parts with which, and with those ahead, no sheet begins; None."""
    names, trial, questions = value
    if not _are_names(names):
        return 0
    if not is_trial(trial) or len(trial[0][0]) != len(names):
        return 1
    return None if _are_questions(trial, questions) else 2


def _are_names(value):
    """Tell whether a value is a tuple of 1 to 5 unlike names."""
    if not isinstance(value, tuple) or not 1 <= len(value) <= MOST_UNKNOWNS:
        return False
    return all(is_name(name) for name in value) and len(set(value)) == len(value)


def _are_questions(trial, value):
    """Tell whether a value is an ascending tuple of up to 8 pairs of unlike names and questions of a trial."""
    if not isinstance(value, tuple) or len(value) > MOST_QUESTIONS:
        return False
    ahead = ""
    for pair in value:
        if not _is_named_question(trial, pair) or pair[0] <= ahead:
            return False
        ahead = pair[0]
    return True


def _is_named_question(trial, value):
    """Tell whether a value is a pair of a name and a question of a trial."""
    return isinstance(value, tuple) and len(value) == 2 and is_name(value[0]) and is_question_of(trial, value[1])


def _row_of(words):
    """The row of fractions, each told by a word just as in texts of sheets; None."""
    row = [fraction_of(word) for word in words]
    # Any other way to tell a fraction is none in a sheet's text.
    if None in row or row_words(row) != words:
        return None
    return tuple(row)
