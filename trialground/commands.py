"""What lines of the console ask for: their first word, and what follows it, read."""

from trialground.factors import MOST_FACTORS, MOST_WORDS
from trialground.lots import is_lot
from trialground.texts import fraction_of, number_of

MOST_FIGURES = 6


def understood(line):
    """The first word of a line and a tuple of what follows it; None for a line that is not understood."""
    words = line.split(" ")
    if "\n" in line or "" in words or words[0] not in READERS:
        return None
    read = READERS[words[0]]
    parts = read(words[1:])
    return None if parts is None else (words[0], parts)


def _told_number(word):
    """The number of a NUMBER; None."""
    return number_of(word) if len(word) <= MOST_FIGURES else None


def _told_row(words):
    """The row of FRACTIONS, one or more; None."""
    numbers = [number for word in words for number in word.removeprefix("-").split("/")]
    if words == [] or max([len(number) for number in numbers]) > MOST_FIGURES:
        return None
    row = tuple([fraction_of(word) for word in words])
    return None if None in row else row


def _told_word(factors, text):
    """The word of so many factors that a text tells by a sign and figures; None."""
    figures = text[1:]
    if text[0] not in "+-" or not figures.isascii() or not figures.isdigit():
        return None
    effect = tuple([int(figure) for figure in figures])
    return (effect, 1 if text[0] == "+" else -1) if is_lot(effect, factors) else None


def _text(words):
    """The text of a sheet, of one word or more: its rows are parted by a ; between blanks."""
    if words == []:
        return None
    rows = " ".join(words).split(" ; ")
    return ("".join([row + "\n" for row in rows]),)


def _put(words):
    """The row of FRACTIONS, two or more, and the last one as a NUMBER, None if it is none."""
    row = _told_row(words)
    return None if row is None or len(row) < 2 else (row, _told_number(words[-1]))


def _numbers(words):
    """A tuple of as many NUMBERs as there are words."""
    numbers = tuple([_told_number(word) for word in words])
    return None if None in numbers else numbers


def _one_number(words):
    """One NUMBER."""
    return _numbers(words) if len(words) == 1 else None


def _two_numbers(words):
    """Two NUMBERs."""
    return _numbers(words) if len(words) == 2 else None


def _order(words):
    """A tuple of NUMBERs, one or more."""
    numbers = _numbers(words)
    return None if numbers is None or numbers == () else (numbers,)


def _number_and_fraction(words):
    """A NUMBER and a FRACTION."""
    numbers, row = _numbers(words[:1]), _told_row(words[1:])
    return None if len(words) != 2 or numbers is None or row is None else numbers + row


def _name(words):
    """What stands for a name."""
    return (words[0],) if len(words) == 1 else None


def _name_and_row(words):
    """What stands for a name, and the row of FRACTIONS, one or more."""
    row = _told_row(words[1:])
    return None if row is None else (words[0], row)


def _nothing(words):
    """No words."""
    return () if words == [] else None


def _factors_and_words(words):
    """The number of factors and the tuple of words of them."""
    numbers = _numbers(words[:1])
    if numbers is None or numbers == () or not 1 <= numbers[0] <= MOST_FACTORS or len(words) > MOST_WORDS + 1:
        return None
    told = tuple([_told_word(numbers[0], word) for word in words[1:]])
    return None if None in told else (numbers[0], told)


# Which function reads what follows a first word.
READERS = {
    "sheet": _text,
    "put": _put,
    "strike": _one_number,
    "weigh": _number_and_fraction,
    "block": _two_numbers,
    "order": _order,
    "unknown": _name_and_row,
    "keep": _name_and_row,
    "drop": _name,
    "undo": _nothing,
    "redo": _nothing,
    "least": _name,
    "best": _name,
    "fair": _name_and_row,
    "told": _nothing,
    "lost": _name,
    "show": _nothing,
    "piece": _factors_and_words,
    "classes": _factors_and_words,
}
