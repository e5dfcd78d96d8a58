"""How numbers and fractions stand in texts."""

from trialground.ratios import fraction


def number_of(word):
    """The number that a word tells by its figures, without noughts ahead; None."""
    if not word.isascii() or not word.isdigit() or (word[0] == "0" and word != "0"):
        return None
    return int(word)


def fraction_of(word):
    """The fraction that a word tells by n or n/m, in any terms, a - ahead or not; None."""
    bare = word.removeprefix("-")
    above, mark, below = bare.partition("/")
    numbers = (number_of(above), 1 if mark == "" else number_of(below))
    if None in numbers or numbers[1] == 0:
        return None
    return fraction(numbers[0] if bare == word else -numbers[0], numbers[1])


def fraction_text(ratio):
    """The text of a fraction."""
    above, below = ratio
    return str(above) if below == 1 else f"{above}/{below}"


def row_words(row):
    """The texts of the fractions of a row."""
    return [fraction_text(ratio) for ratio in row]
