"""Even tables: squares of which they are the sum, or rows for which they are below 0."""

from itertools import combinations

from trialground.errors import InvalidNumber, InvalidQuestion, InvalidRows, InvalidTable
from trialground.ratios import NIL, ONE, fraction, is_fraction, is_row, is_whole, mark_row, minus, negative, over
from trialground.ratios import row_product, times

MOST_ROWS = 5
MOST_SQUARES = 5


def squares_or_below(table):
    """("squares", any squares of which a table is the sum), or ("below", any row for which it is below 0)."""
    check_table(table)
    return split_table(table)


def is_nowhere_below(table):
    """Tell whether a table is below 0 for no row."""
    check_table(table)
    return split_table(table)[0] == "squares"


def table_of_squares(many, squares):
    """The table of so many rows that is the sum of squares."""
    if not is_whole(many) or not 1 <= many <= MOST_ROWS:
        raise InvalidNumber(many)
    _check_squares(many, squares)
    return sum_of_squares(many, squares)


def sum_at(table, row):
    """The sum of the table's numbers, each times the row's numbers at both of its indexes."""
    check_table(table)
    if not is_row(row, len(table)):
        raise InvalidQuestion(row)
    return row_product(row, table_times(table, row))


def check_table(table):
    """Raise InvalidTable for no even table of 1 to 5 rows."""
    if not _is_table(table):
        raise InvalidTable(table)


def split_table(table):
    """What squares_or_below tells of what is known to be an even table."""
    squares, letters = [], []
    rest = table
    letter = _letter_above(rest)
    while letter is not None:
        square = (over(ONE, rest[letter][letter]), rest[letter])
        squares.append(square)
        letters.append(letter)
        rest = table_minus(rest, sum_of_squares(len(table), (square,)))
        letter = _letter_above(rest)
    row = _row_below(rest)
    if row is None:
        return ("squares", tuple(squares))
    # A square's row has noughts at the letters taken out ahead of it: set from the last
    # one back, each letter makes its own square 0 and leaves those behind it at 0.
    for letter, (_, line) in reversed(list(zip(letters, squares))):
        row = _with_square_at_nought(row, letter, line)
    return ("below", row)


def sum_of_squares(many, squares):
    """The table of so many rows that is the sum of pairs (C, ROW), C being any fraction."""
    weighed = [[times(worth, part) for part in row] for worth, row in squares]
    rows = [row for _, row in squares]
    return tuple([tuple([_entry(weighed, rows, one, other) for other in range(many)]) for one in range(many)])


def table_times(table, row):
    """The row of the sums of the table's numbers times the row's, one for each row of the table."""
    return tuple([row_product(line, row) for line in table])


def table_minus(table, other):
    """A table less another one, number by number."""
    return tuple([tuple([minus(mine, its) for mine, its in zip(line, beside)]) for line, beside in zip(table, other)])


def _is_table(value):
    """Tell whether a value is an even table of 1 to 5 rows."""
    if not isinstance(value, tuple) or not 1 <= len(value) <= MOST_ROWS:
        return False
    many = len(value)
    if not all(is_row(row, many) for row in value):
        return False
    return all([value[one][other] == value[other][one] for one, other in combinations(range(many), 2)])


def _check_squares(many, squares):
    """Raise InvalidRows for no squares with rows of so many fractions."""
    if not isinstance(squares, tuple) or len(squares) > MOST_SQUARES:
        raise InvalidRows(None)
    for index, square in enumerate(squares):
        if not _is_square(many, square):
            raise InvalidRows(index)


def _is_square(many, value):
    """Tell whether a value is a pair of a fraction above 0 and a row of so many fractions."""
    if not isinstance(value, tuple) or len(value) != 2:
        return False
    worth, row = value
    return is_fraction(worth) and worth[0] > 0 and is_row(row, many)


def _entry(weighed, rows, one, other):
    """The number at two indexes of the sum of squares, told by their rows, weighed and as they are."""
    return row_product([row[one] for row in weighed], [row[other] for row in rows])


def _letter_above(table):
    """The first letter with a number above 0 on the diagonal; None."""
    for letter, row in enumerate(table):
        if row[letter][0] > 0:
            return letter
    return None


def _row_below(table):
    """Any row for which a table without numbers above 0 on its diagonal is below 0; None."""
    many = len(table)
    for letter, row in enumerate(table):
        if row[letter][0] < 0:
            return mark_row(many, {letter: ONE})
    # With noughts on the diagonal, two letters alone make twice their products and no squares.
    for one, other in combinations(range(many), 2):
        if table[one][other] != NIL:
            sign = 1 if table[one][other][0] > 0 else -1
            return mark_row(many, {one: fraction(-sign, 1), other: ONE})
    return None


def _with_square_at_nought(row, letter, line):
    """The row, with 0 at a letter, with the number there for which its sum with the line is 0."""
    worth = negative(over(row_product(line, row), line[letter]))
    return row[:letter] + (worth,) + row[letter + 1:]
