"""The errors of the package: each stands under TrialError alone."""


class TrialError(ValueError):
    """What all errors of the package stand under."""


class InvalidTrial(TrialError):
    """What was given for a trial is none."""

    def __init__(self, given):
        self.given = given


class InvalidWorld(TrialError):
    """What was given for a world is none of the trial."""

    def __init__(self, given):
        self.given = given


class InvalidQuestion(TrialError):
    """What was given for a question is none of the trial."""

    def __init__(self, given):
        self.given = given


class InvalidTelling(TrialError):
    """What was given for a telling is none of the trial."""

    def __init__(self, given):
        self.given = given


class InvalidTable(TrialError):
    """What was given for a table is none."""

    def __init__(self, given):
        self.given = given


class InvalidShares(TrialError):
    """What was given for shares is none of the trial."""

    def __init__(self, given):
        self.given = given


class InvalidNumber(TrialError):
    """What was given for a number is none that is asked for."""

    def __init__(self, given):
        self.given = given


class InvalidName(TrialError):
    """What was given for a name is none."""

    def __init__(self, given):
        self.given = given


class InvalidDeed(TrialError):
    """What was given for a deed or a change is none that fits."""

    def __init__(self, given):
        self.given = given


class Unlike(TrialError):
    """What was given is unlike what it has to be like."""

    def __init__(self, given):
        self.given = given


class Unfit(TrialError):
    """What was given is well formed, but does not fit what is asked."""

    def __init__(self, given):
        self.given = given


class InvalidLot(TrialError):
    """What was given for a lot is wrong at an index, or no tuple for it."""

    def __init__(self, index):
        self.index = index


class InvalidRows(TrialError):
    """What was given for rows is wrong at an index, or no tuple for it."""

    def __init__(self, index):
        self.index = index


class InvalidWords(TrialError):
    """What was given for words is wrong at an index, or no tuple for it."""

    def __init__(self, index):
        self.index = index


class InvalidRuns(TrialError):
    """What was given for runs is wrong at an index, or no tuple for it."""

    def __init__(self, index):
        self.index = index


class InvalidBook(TrialError):
    """What was given for a sheet is wrong at an index, or no tuple for it."""

    def __init__(self, index):
        self.index = index


class InvalidLines(TrialError):
    """What was given for lines is wrong at an index, or no tuple for it."""

    def __init__(self, index):
        self.index = index


class InvalidText(TrialError):
    """What was given for a text is wrong at a row, or no text."""

    def __init__(self, line):
        self.line = line


class NotTold(TrialError):
    """The trial does not tell the question."""


class NothingToUndo(TrialError):
    """No change of the book stands that could be undone."""


class NothingToRedo(TrialError):
    """No change of the book was undone that could be done again."""
