"""What the tests share: trials to try, and sums of their own, made with Python's fractions.

Nothing here calls the package, so that what it tells is held against other sums than its own.
"""

import random
from fractions import Fraction


def number(pair):
    return Fraction(pair[0], pair[1])


def pair(value):
    value = Fraction(value)
    return (value.numerator, value.denominator)


def row(*values):
    """A row of fractions, each told by a number or by a text such as "1/2"."""
    return tuple(pair(value) for value in values)


def trial(rows, spreads=None, blocks=()):
    """A trial of rows of numbers, spreads of 1 if none are told."""
    spreads = [1] * len(rows) if spreads is None else spreads
    return (tuple(row(*each) for each in rows), row(*spreads), tuple(blocks))


def levels(some_trial):
    return max(some_trial[2]) + 1 if some_trial[2] else 0


def own_yields(some_trial, world):
    """What the plots yield, one by one, as the document says it."""
    rows, _, blocks = some_trial
    values, heights = world
    told = []
    for plot, each in enumerate(rows):
        total = Fraction(0)
        for unknown in range(len(values)):
            total += number(each[unknown]) * number(values[unknown])
        if blocks:
            total += number(heights[blocks[plot]])
        told.append(total)
    return told


def own_answer(question, world):
    return sum((number(q) * number(v) for q, v in zip(question, world[0])), Fraction(0))


def own_is_fair(some_trial, question, telling):
    rows, _, blocks = some_trial
    for unknown in range(len(rows[0])):
        made = sum(number(weight) * number(each[unknown]) for weight, each in zip(telling, rows))
        if made != number(question[unknown]):
            return False
    for block in blocks:
        if sum(number(weight) for weight, its in zip(telling, blocks) if its == block) != 0:
            return False
    return True


def own_spread(some_trial, telling):
    return sum(number(weight) ** 2 * number(spread) for weight, spread in zip(telling, some_trial[1]))


def own_is_shift(some_trial, question, world):
    return not any(own_yields(some_trial, world)) and own_answer(question, world) != 0


def own_is_load(some_trial, telling, world):
    wanted = [number(weight) * number(spread) for weight, spread in zip(telling, some_trial[1])]
    return own_yields(some_trial, world) == wanted


def null_space(matrix, width):
    """Rows that span all x with matrix times x = 0: Gauss's way, with Python's fractions."""
    lines = [[Fraction(part) for part in line] for line in matrix]
    pivots = []
    for column in range(width):
        top = len(pivots)
        at = next((k for k in range(top, len(lines)) if lines[k][column]), None)
        if at is None:
            continue
        lines[top], lines[at] = lines[at], lines[top]
        lead = lines[top][column]
        lines[top] = [part / lead for part in lines[top]]
        for k, line in enumerate(lines):
            if k != top and line[column]:
                factor = line[column]
                lines[k] = [a - factor * b for a, b in zip(line, lines[top])]
        pivots.append(column)
    found = []
    for free in range(width):
        if free not in pivots:
            vector = [Fraction(0)] * width
            vector[free] = Fraction(1)
            for k, column in enumerate(pivots):
                vector[column] = -lines[k][free]
            found.append(vector)
    return found


def fair_for_nothing(some_trial):
    """Tellings that span all fair ones for the question of noughts."""
    rows, _, blocks = some_trial
    matrix = [[number(each[unknown]) for each in rows] for unknown in range(len(rows[0]))]
    matrix += [[Fraction(its == block) for its in blocks] for block in sorted(set(blocks))]
    return null_space(matrix, len(rows))


def shifted(telling, difference, factor=1):
    """A telling with so many times a difference more."""
    return tuple(pair(number(weight) + factor * part) for weight, part in zip(telling, difference))


def some_fraction(rng, greatest=4):
    return pair(Fraction(rng.randint(-greatest, greatest), rng.choice((1, 1, 1, 2, 3))))


def some_row(rng, many, greatest=4):
    return tuple(some_fraction(rng, greatest) for _ in range(many))


def some_trial(rng):
    """A trial; some of its plots come twice or are sums of others, some have blocks."""
    plots, unknowns = rng.choice((rng.randint(1, 4), rng.randint(1, 10))), rng.randint(1, 5)
    greatest = rng.choice((1, 4, 4, 10 ** 12))
    rows = []
    while len(rows) < plots:
        kind = rng.randrange(6)
        if kind == 0 and rows:
            rows.append(rng.choice(rows))
        elif kind == 1 and rows:
            one, other = rng.choice(rows), rng.choice(rows)
            rows.append(tuple(pair(number(a) + number(b)) for a, b in zip(one, other)))
        elif kind == 2:
            rows.append(row(*[0] * unknowns))
        else:
            rows.append(some_row(rng, unknowns, greatest))
    spreads = tuple(pair(Fraction(rng.randint(1, 5), rng.randint(1, 3))) for _ in rows)
    blocks = tuple(rng.choice((0, 0, 1, 3, 4)) for _ in rows) if rng.random() < 0.5 else ()
    return (tuple(rows), spreads, blocks)


def some_question(rng, of_trial):
    """A question; some are noughts, some are made of the plots, so that they tend to be told."""
    rows, _, blocks = of_trial
    unknowns = len(rows[0])
    kind = rng.randrange(6)
    if kind == 0:
        return row(*[0] * unknowns)
    if kind < 4:
        return some_row(rng, unknowns)
    weights = [rng.randint(-2, 2) for _ in rows]
    for block in set(blocks):
        places = [k for k, its in enumerate(blocks) if its == block]
        weights[places[-1]] -= sum(weights[k] for k in places)
    made = [sum(w * number(each[k]) for w, each in zip(weights, rows)) for k in range(unknowns)]
    return row(*made)


def some_world(rng, of_trial):
    return (some_row(rng, len(of_trial[0][0])), some_row(rng, levels(of_trial)))


def cases(seed, many):
    """Many pairs of a trial and a question of it, the same for each seed."""
    rng = random.Random(seed)
    found = []
    for _ in range(many):
        made = some_trial(rng)
        found.append((made, some_question(rng, made)))
    return found


class Odd:
    """An object that is like nothing: comparing or counting it fails."""

    def __eq__(self, other):
        raise RuntimeError("compared")

    def __len__(self):
        raise RuntimeError("measured")

    def __bool__(self):
        raise RuntimeError("tested")

    __hash__ = None


def nested(depth):
    value = ()
    for _ in range(depth):
        value = (value,)
    return value


STRANGE = (
    None, True, False, 0, 1, -1, 10 ** 399, "", "trial", "((1, 1),)", b"", b"ab", (), [], {}, set(),
    {1: 2}, {1, 2, 3}, frozenset((1, 2)), range(3), int, len, Odd(), (Odd(), Odd()), (Odd(), Odd(), Odd()),
    nested(60), ((),), ((), ()), ((), (), ()), (None, None), (None, None, None), ("a", "b"),
    ("abc", "abc", "abc"), (1, 1), ((1, 1),), (1, 1, 1), ([], [], []), ({}, {}, {}), (0,) * 1000,
)


def session_steps(text):
    """Pairs of what is typed and what is to come (None for nothing) of a session's text."""
    steps = []
    for line in text.strip("\n").split("\n"):
        if line.startswith(">>> "):
            steps.append([line[4:], None])
        else:
            steps[-1][1] = line
    return steps
