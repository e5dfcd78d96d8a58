"""The tests' own sums over tables, with Python's fractions; nothing here calls the package."""

import random
from fractions import Fraction
from itertools import combinations

from tests.support import number, null_space, pair, row, some_fraction, some_row, trial


def numbers(some_row_of_pairs):
    return [number(each) for each in some_row_of_pairs]


def matrix_of(table):
    return [numbers(line) for line in table]


def table_from(matrix):
    return tuple(tuple(pair(part) for part in line) for line in matrix)


def own_hefts(some_trial):
    return [1 / number(spread) for spread in some_trial[1]]


def plots_by_block(some_trial):
    found = {}
    for plot, block in enumerate(some_trial[2]):
        found.setdefault(block, []).append(plot)
    return found


def own_table(some_trial):
    """The table as the first sentence of point 10 tells it."""
    rows, hefts = matrix_of(some_trial[0]), own_hefts(some_trial)
    unknowns = range(len(rows[0]))
    matrix = [[sum(h * r[i] * r[j] for h, r in zip(hefts, rows)) for j in unknowns] for i in unknowns]
    for plots in plots_by_block(some_trial).values():
        total = sum(hefts[p] for p in plots)
        sums = [sum(hefts[p] * rows[p][i] for p in plots) for i in unknowns]
        matrix = [[matrix[i][j] - sums[i] * sums[j] / total for j in unknowns] for i in unknowns]
    return matrix


def own_table_by_pairs(some_trial):
    """The table of a trial with blocks, by all pairs of plots of one block."""
    rows, hefts = matrix_of(some_trial[0]), own_hefts(some_trial)
    unknowns = range(len(rows[0]))
    matrix = [[Fraction(0) for _ in unknowns] for _ in unknowns]
    for plots in plots_by_block(some_trial).values():
        total = sum(hefts[p] for p in plots)
        for p, q in combinations(plots, 2):
            for i in unknowns:
                for j in unknowns:
                    difference = (rows[p][i] - rows[q][i]) * (rows[p][j] - rows[q][j])
                    matrix[i][j] += hefts[p] * hefts[q] / total * difference
    return matrix


def own_block_mean(some_trial, block):
    rows, hefts = matrix_of(some_trial[0]), own_hefts(some_trial)
    plots = plots_by_block(some_trial)[block]
    total = sum(hefts[p] for p in plots)
    return [sum(hefts[p] * rows[p][i] for p in plots) / total for i in range(len(rows[0]))]


def product(line, other):
    return sum((a * b for a, b in zip(line, other)), Fraction(0))


def times_row(matrix, line):
    return [product(each, line) for each in matrix]


def own_sum_at(matrix, line):
    return product(line, times_row(matrix, line))


def minus_matrix(one, other):
    return [[a - b for a, b in zip(line, beside)] for line, beside in zip(one, other)]


def plus_matrix(one, other):
    return [[a + b for a, b in zip(line, beside)] for line, beside in zip(one, other)]


def own_sum_of_squares(many, squares):
    matrix = [[Fraction(0)] * many for _ in range(many)]
    for worth, line in squares:
        line, worth = numbers(line), number(worth)
        matrix = [[matrix[i][j] + worth * line[i] * line[j] for j in range(many)] for i in range(many)]
    return matrix


def are_squares_of(squares, matrix):
    """Whether up to five squares with numbers above 0 have the matrix as their sum."""
    many = len(matrix)
    if squares.__class__ is not tuple or len(squares) > 5:
        return False
    for square in squares:
        worth, line = square
        if square.__class__ is not tuple or line.__class__ is not tuple or len(line) != many or number(worth) <= 0:
            return False
    return own_sum_of_squares(many, squares) == matrix


def determinant(matrix):
    if not matrix:
        return Fraction(1)
    return sum(((-1) ** k * matrix[0][k] * determinant([line[:k] + line[k + 1:] for line in matrix[1:]])
                for k in range(len(matrix)) if matrix[0][k]), Fraction(0))


def is_nowhere_below_by_minors(matrix):
    """Sylvester: nowhere below 0 exactly if no determinant of a lot of indexes is below 0."""
    many = len(matrix)
    lots = [lot for size in range(1, many + 1) for lot in combinations(range(many), size)]
    return all(determinant([[matrix[i][j] for j in lot] for i in lot]) >= 0 for lot in lots)


def own_solution(matrix, sides):
    """Any x with matrix times x = sides; None if there is none."""
    width = len(matrix[0]) if matrix else 0
    for vector in null_space([list(line) + [side] for line, side in zip(matrix, sides)], width + 1):
        if vector[width] != 0:
            answer = [-part / vector[width] for part in vector[:width]]
            # The tests lean on this: so it looks at itself.
            assert times_row(matrix, answer) == list(sides)
            return answer
    return None


def own_rank(matrix):
    return len(matrix[0]) - len(null_space(matrix, len(matrix[0]))) if matrix else 0


def own_least_spread(some_trial, question):
    """The least spread by the test's own equations; None."""
    answer = own_solution(own_table(some_trial), numbers(question))
    return None if answer is None else product(answer, numbers(question))


def some_spreads(rng, many):
    kind = rng.randrange(4)
    if kind == 0:
        return row(*[1] * many)
    if kind == 1:
        return tuple(pair(Fraction(rng.randint(1, 9), rng.randint(10 ** 3, 10 ** 6))) for _ in range(many))
    return tuple(pair(Fraction(rng.randint(1, 6), rng.randint(1, 4))) for _ in range(many))


def table_trial(rng, unknowns, plots, with_blocks):
    """A trial with so many unknowns and plots; plots often come twice, block numbers are left out."""
    rows = []
    while len(rows) < plots:
        if rows and rng.random() < 0.25:
            rows.append(rng.choice(rows))
        else:
            rows.append(some_row(rng, unknowns, rng.choice((1, 1, 3))))
    numbers_let = rng.choice(((0,), (0, 1), (0, 2, 4), (1, 3), (0, 1, 2, 3, 4)))
    blocks = tuple(rng.choice(numbers_let) for _ in rows) if with_blocks else ()
    return (tuple(rows), some_spreads(rng, plots), blocks)


def table_trials(seed, many):
    """Trials with and without blocks, all numbers of unknowns and of plots among them."""
    rng = random.Random(seed)
    return [table_trial(rng, 1 + k % 5, 1 + k // 5 % 10, k // 50 % 2 == 1) for k in range(many)]


def some_even_table(rng, many):
    matrix = [[Fraction(0)] * many for _ in range(many)]
    for i in range(many):
        for j in range(i + 1):
            matrix[i][j] = matrix[j][i] = number(some_fraction(rng, 3)) if rng.random() < 0.7 else Fraction(0)
    return matrix


def reordered(some_trial, order):
    """The same plots in another order."""
    return tuple(tuple(part[k] for k in order) if part else () for part in some_trial)


def of_kinds(kinds, unknowns, blocks, spreads=None):
    """A trial of kinds: the kind of each plot, and its block."""
    rows = [[int(k == kind) for k in range(unknowns)] for kind in kinds]
    return trial(rows, spreads, blocks)
