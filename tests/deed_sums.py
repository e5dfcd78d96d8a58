"""The tests' own standings, deeds and changes, with Python's fractions; nothing here calls the package."""

from fractions import Fraction

from tests.sheet_sums import own_is_name
from tests.sums import matrix_of, numbers, own_hefts, own_solution, own_table, plots_by_block, product
from tests.support import levels, null_space, number, pair, row, some_fraction, some_question, some_row


def own_load(some_trial, question):
    """The values and the levels of a load of the best telling, as point 12 tells them; None."""
    values = own_solution(own_table(some_trial), numbers(question))
    if values is None:
        return None
    rows, hefts = matrix_of(some_trial[0]), own_hefts(some_trial)
    heights = [Fraction(0)] * levels(some_trial)
    for block, plots in plots_by_block(some_trial).items():
        total = sum(hefts[plot] for plot in plots)
        heights[block] = -sum(hefts[plot] * product(rows[plot], values) for plot in plots) / total
    return values, heights


def own_yield(plot_row, block, values, heights):
    return product(numbers(plot_row), values) + (heights[block] if heights else 0)


def own_standing(some_trial, question):
    """(), or the least spread and the best telling."""
    load = own_load(some_trial, question)
    if load is None:
        return ()
    rows, spreads, blocks = some_trial
    weights = [own_yield(rows[plot], blocks[plot] if blocks else None, *load) / number(spreads[plot])
               for plot in range(len(rows))]
    return (pair(product(load[0], numbers(question))), tuple(pair(weight) for weight in weights))


def own_made(some_trial, deed):
    """The trial that a deed makes; None if it does not fit. Its parts are of the told kinds, but not always right."""
    rows, spreads, blocks = [list(part) for part in some_trial]
    kind, *parts = deed
    if kind == "put":
        right = len(rows) < 10 and len(parts[0]) == len(rows[0]) and number(parts[1]) > 0
        if not right or (parts[2] is None) != (not blocks) or parts[2] not in (None, 0, 1, 2, 3, 4):
            return None
        rows, spreads, blocks = rows + parts[:1], spreads + parts[1:2], blocks + ([] if parts[2] is None else parts[2:])
    elif kind == "order":
        if sorted(parts[0]) != list(range(len(rows))):
            return None
        rows, spreads, blocks = [[part[at] for at in parts[0]] if part else [] for part in (rows, spreads, blocks)]
    elif kind == "unknown":
        if len(parts[0]) != len(rows) or len(rows[0]) == 5:
            return None
        rows = [each + (more,) for each, more in zip(rows, parts[0])]
    else:
        if not 0 <= parts[0] < len(rows):
            return None
        if kind == "weigh" and number(parts[1]) > 0:
            spreads[parts[0]] = parts[1]
        elif kind == "block" and blocks and parts[1] in (0, 1, 2, 3, 4):
            blocks[parts[0]] = parts[1]
        elif kind == "strike" and len(rows) > 1:
            for part in (rows, spreads, blocks):
                del part[parts[0]:parts[0] + 1]
        else:
            return None
    return (tuple(rows), tuple(spreads), tuple(blocks))


def own_leaves(some_trial, deed, question):
    """Whether a deed that fits leaves a question, word for word as the document tells it."""
    stands = own_standing(some_trial, question)
    kind, *parts = deed
    if kind == "put":
        return stands != () and own_some_load_yields_nothing(some_trial, question, parts[0], parts[2])
    if kind == "strike":
        return stands == () or stands[1][parts[0]] == (0, 1)
    if kind == "weigh":
        return some_trial[1][parts[0]] == parts[1] or stands == () or stands[1][parts[0]] == (0, 1)
    if kind == "block":
        return some_trial[2][parts[0]] == parts[1]
    if kind == "unknown":
        return stands == () or product(numbers(stands[1]), numbers(parts[0])) == 0
    return True


def own_some_load_yields_nothing(some_trial, question, plot_row, block):
    """Loads of the best telling are one of them and any worlds in which all plots yield 0."""
    rows, _, blocks = some_trial
    many = levels(some_trial)
    if block is not None and block >= many:
        return True
    values, heights = own_load(some_trial, question)
    wide = [numbers(each) + [int(blocks[plot] == level) for level in range(many)] for plot, each in enumerate(rows)]
    new = numbers(plot_row) + [int(level == block) for level in range(many)]
    free = any(product(new, world) for world in null_space(wide, len(new)))
    return free or own_yield(plot_row, block, values, heights) == 0


def own_along(deed, question):
    return question + ((0, 1),) if deed[0] == "unknown" else question


def own_standing_along(deed, stands):
    """The standing of a question that is left, led along."""
    if stands == ():
        return ()
    least, weights = stands[0], list(stands[1])
    if deed[0] == "put":
        weights.append((0, 1))
    elif deed[0] == "strike":
        del weights[deed[1]]
    elif deed[0] == "order":
        weights = [weights[at] for at in deed[1]]
    return (least, tuple(weights))


def some_deed(rng, some_trial, wrong=0.1):
    """A deed of any kind; now and then it does not fit, and often it leaves what is told."""
    rows, spreads, blocks = some_trial
    plots, unknowns = len(rows), len(rows[0])
    kind = rng.choice(("put", "strike", "weigh", "block", "order", "unknown"))
    off = rng.random() < wrong
    at = rng.choice((-1, plots, plots + 5)) if off else rng.randrange(plots)
    if kind == "put":
        new = rng.choice((some_row(rng, unknowns + off, 2), rng.choice(rows), row(*[0] * unknowns)))
        block = rng.randrange(6 if off else 5) if blocks else None
        return ("put", new, rng.choice(spreads), rng.choice((block, None, 0)) if off else block)
    if kind == "strike":
        return ("strike", at)
    if kind == "weigh":
        spread = row(0, -1)[rng.randrange(2)] if off and rng.random() < 0.5 else pair(Fraction(rng.randint(1, 4), 2))
        return ("weigh", at, rng.choice((spread, spread, spreads[at])) if 0 <= at < plots else spread)
    if kind == "block":
        return ("block", at, rng.choice((rng.randrange(6 if off else 5), blocks[at] if blocks and 0 <= at < plots else 0)))
    if kind == "order":
        order = rng.sample(range(plots), plots)
        return ("order", tuple(rng.choice((order[1:], order + [0], order[:-1] + [at])) if off else order))
    column = [rng.choice(((0, 1), some_fraction(rng, 2))) for _ in range(plots + off)]
    return ("unknown", tuple(column))


def own_changed(sheet, change):
    """The sheet that a change makes; None if it does not fit. Its parts are of the told kinds."""
    names, some_trial, questions = sheet
    kept = dict(questions)
    kind = change[0]
    if kind == "drop":
        if change[1] not in kept:
            return None
        del kept[change[1]]
    elif kind == "keep":
        full = len(kept) == 8 and change[1] not in kept
        if full or not own_is_name(change[1]) or len(change[2]) != len(names):
            return None
        kept[change[1]] = change[2]
    else:
        some_trial = own_made(some_trial, change[:2] if kind == "unknown" else change)
        if some_trial is None or (kind == "unknown" and (change[2] in names or not own_is_name(change[2]))):
            return None
        names = names + change[2:] if kind == "unknown" else names
        kept = {name: own_along(change, question) for name, question in questions}
    return (names, some_trial, tuple(sorted(kept.items())))


def own_work(sheet, change):
    """The names of what is looked at anew by a change that fits."""
    if change[0] == "drop":
        return ()
    if change[0] == "keep":
        return (change[1],)
    return tuple(name for name, question in sheet[2] if not own_leaves(sheet[1], change, question))


def own_standings(sheet):
    return tuple(own_standing(sheet[1], question) for _, question in sheet[2])


def some_change(rng, sheet, wrong=0.1):
    """A change of any kind; now and then it does not fit."""
    names, some_trial, questions = sheet
    kept = [name for name, _ in questions]
    off = rng.random() < wrong
    kind = rng.choice(("deed", "deed", "deed", "keep", "keep", "drop", "unknown"))
    if kind == "deed":
        deed = some_deed(rng, some_trial, wrong)
        if deed[0] != "unknown":
            return deed
        kind = "unknown"
    if kind == "unknown":
        column = tuple(rng.choice(((0, 1), some_fraction(rng, 2))) for _ in range(len(some_trial[0]) + off * rng.randrange(2)))
        return ("unknown", column, rng.choice(names + ("plot", "A1")) if off else rng.choice("abcdefg") + rng.choice("xyz"))
    name = rng.choice(kept) if kept and rng.random() < 0.5 else rng.choice("abcdefghijkl")
    if off:
        name = rng.choice(("question", "toolongname", "", "none", name))
    if kind == "drop":
        return ("drop", name)
    return ("keep", name, some_row(rng, len(names) + (off and rng.randrange(2)), 2) if off else some_question(rng, some_trial))
