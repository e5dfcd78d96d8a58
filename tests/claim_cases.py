"""Claims with papers, right ones and others of the told forms, made by the tests' own sums; nothing here calls the package."""

from fractions import Fraction
from itertools import combinations, permutations

from tests.claim_sums import behind, greatest_own_spread, share_matrix, unknowns
from tests.deed_sums import own_load, own_standing, some_deed
from tests.factor_sums import own_effects, own_odd, own_piece, own_products, own_runs, some_effect, some_plan, some_words
from tests.sheet_sums import own_read, own_text, some_sheet
from tests.sums import (determinant, matrix_of, minus_matrix, numbers, of_kinds, own_solution, own_sum_of_squares, own_table,
                        some_even_table, table_from, table_trial)
from tests.support import fair_for_nothing, levels, null_space, number, pair, row, shifted, some_fraction, some_question, some_row


def pairs(values):
    return tuple(pair(value) for value in values)


def some_asked(rng, plots=6):
    made = table_trial(rng, rng.randint(1, 4), rng.randint(1, plots), rng.random() < 0.5)
    return made, some_question(rng, made)


def plain_trial(rng, size, plots):
    """A trial without blocks, spreads of 1, with rows of small whole numbers."""
    return (tuple(row(*[rng.choice((-1, 0, 1, 1, 2)) for _ in range(size)]) for _ in range(plots)), row(*[1] * plots), ())


def wide_matrix(made):
    return [numbers(each) + [int(made[2][plot] == level) for level in range(levels(made))] for plot, each in enumerate(made[0])]


def some_fair(rng, made, question):
    """A fair telling; None."""
    columns = [list(column) for column in zip(*wide_matrix(made))]
    weights = own_solution(columns, numbers(question) + [0] * levels(made))
    if weights is None:
        return None
    telling = pairs(weights)
    for difference in fair_for_nothing(made):
        telling = shifted(telling, difference, rng.randint(-1, 1))
    return telling


def some_silent(rng, made, lot=()):
    """A world in which all plots out of a lot yield 0."""
    matrix = [line for plot, line in enumerate(wide_matrix(made)) if plot not in lot]
    total = [Fraction(0)] * (unknowns(made) + levels(made))
    for world in null_space(matrix, len(total)):
        factor = rng.choice((-2, -1, 0, 1, 1, Fraction(1, 2)))
        total = [a + factor * b for a, b in zip(total, world)]
    return (pairs(total[:unknowns(made)]), pairs(total[unknowns(made):]))


def moved(world, other, factor=1):
    """A world with so many times another one more."""
    return tuple(pairs([number(a) + factor * number(b) for a, b in zip(one, more)]) for one, more in zip(world, other))


def about_questions(rng):
    made, question = some_asked(rng)
    telling = some_fair(rng, made, question) or some_row(rng, len(made[0]), 2)
    yield ("told", made, question), telling
    yield ("told", made, question), some_row(rng, len(made[0]), 1)
    yield ("not told", made, question), some_silent(rng, made)
    yield ("not told", made, some_row(rng, unknowns(made), 1)), some_silent(rng, made)
    stands = own_standing(made, question)
    if stands:
        load = moved(tuple(map(pairs, own_load(made, question))), some_silent(rng, made))
        off = moved(load, (some_row(rng, unknowns(made), 1), some_row(rng, levels(made), 1)))
        for world in (load, off):
            for weights in (stands[1], telling):
                yield ("best telling", made, question, weights), world
                yield ("least spread", made, question, stands[0]), (weights, world)
            yield ("least spread", made, question, some_fraction(rng)), (stands[1], world)


def some_squares(rng, size):
    return tuple((pair(Fraction(rng.randint(1, 4), rng.randint(1, 2))), some_row(rng, size, 2)) for _ in range(rng.randint(0, 5)))


def other_squares(rng, squares):
    """The same squares in another order, one of them told by another row, or as two."""
    found = rng.sample(squares, len(squares))
    if found:
        worth, line = found.pop()
        if rng.random() < 0.5:
            found.append((pair(number(worth) / 4), pairs([2 * part for part in numbers(line)])))
        else:
            found += [(pair(number(worth) / 3), line), (pair(number(worth) * 2 / 3), line)]
    return tuple(found)


def about_tables(rng):
    size = rng.randint(1, 5)
    squares = some_squares(rng, size)
    made = table_from(own_sum_of_squares(size, squares))
    yield ("nowhere below", made), squares
    yield ("nowhere below", made), other_squares(rng, squares)
    yield ("nowhere below", made), some_squares(rng, size)
    table = table_from(some_even_table(rng, size))
    for _ in range(3):
        yield ("below somewhere", table), some_row(rng, size, 2)
        yield ("below somewhere", made), some_row(rng, size, 2)


def about_two(rng):
    size = rng.randint(1, 4)
    one = table_trial(rng, size, rng.randint(1, 5), False)
    more = table_trial(rng, size, rng.randint(1, 4), False)
    both = tuple(a + b for a, b in zip(one, more))
    squares = tuple((pair(1 / number(spread)), line) for line, spread in zip(more[0], more[1]))
    yield ("at least as good", both, one), squares
    yield ("at least as good", both, one), other_squares(rng, squares)
    yield ("at least as good", one, both), squares
    yield ("at least as good", one, one[:2] + ((0,) * len(one[0]),)), some_squares(rng, size)
    yield ("at least as good", one, one), ()
    for _ in range(3):
        yield ("not as good", one, both), some_row(rng, size, 1)
        yield ("not as good", both, one), some_row(rng, size, 1)
        yield ("not as good", one[:2] + ((0,) * len(one[0]),), one), some_row(rng, size, 1)


def about_kinds(rng):
    size, plots = rng.randint(1, 5), rng.randint(1, 8)
    made = of_kinds([rng.randrange(size) for _ in range(plots)], size, [rng.randrange(4) for _ in range(plots)])
    kind, other = rng.randrange(size), rng.randrange(size)
    for way in [(kind,)] + [way for many in range(2, size + 1) for way in permutations(range(size), many)
                            if way[0] == kind and rng.random() < 0.3]:
        yield ("hang together", made, kind, other if rng.random() < 0.5 else way[-1]), way
    for many in range(1, size + 1):
        for lot in combinations(range(size), many):
            yield ("part", made, kind, other), lot
    yield ("even-handed", made), ()
    plots = [kind for _ in range(rng.randint(1, 2)) for kind in range(size)]
    yield ("even-handed", of_kinds(plots, size, [0] * len(plots), [rng.choice((1, 2))] * len(plots))), ()
    ring = [kind for one in combinations(range(min(size, 3)), 2) for kind in one] or [0]
    yield ("even-handed", of_kinds(ring, min(size, 3), [k // 2 for k in range(len(ring))])), ()


def some_shares(rng, plots):
    parts = [rng.choice((0, 1, 1, 2, 3)) for _ in range(plots)]
    parts[rng.randrange(plots)] += 1
    return tuple(pair(Fraction(part, sum(parts))) for part in parts)


def about_shares(rng):
    size = rng.randint(1, 3)
    made = table_trial(rng, size, rng.randint(size, 5), rng.random() < 0.05)
    shares = some_shares(rng, len(made[0]))
    for other in (shares, some_shares(rng, len(made[0])), some_shares(rng, len(made[0])), pairs([Fraction(1, len(made[0]))] * len(made[0]))):
        yield ("not best of all", made, shares), other
        yield ("not best of all", made, other), shares
        yield ("best of all", made, other), ()
    unit = (tuple(row(*[int(i == j) for i in range(size)]) for j in range(size)), made[1][:size], ())
    yield ("best of all", unit, pairs([Fraction(1, size)] * size)), ()
    yield ("not best of all", unit, pairs([Fraction(1, size)] * size)), some_shares(rng, size)
    if made[2] == () and determinant(share_matrix(made, shares)):
        most = (greatest_own_spread(made, shares) / size) ** size
        for factor in (1, Fraction(1001, 1000), Fraction(999, 1000), 2):
            yield ("within", made, shares, pair(most * factor)), ()
    yield ("within", made, shares, (3, 1)), ()


def about_best_shares(rng):
    """The plots yield 1, - 1 or something between in the barrier: tellings on the first ones, with such signs, are best."""
    size, plots = rng.randint(1, 3), rng.randint(1, 5)
    made = plain_trial(rng, size, plots)
    barrier = some_row(rng, size, 1)
    worths = [sum(a * b for a, b in zip(numbers(line), numbers(barrier))) for line in made[0]]
    if any(abs(worth) > 1 for worth in worths):
        most = max(map(abs, worths))
        barrier, worths = pairs([part / most for part in numbers(barrier)]), [worth / most for worth in worths]
    weights = [worth * rng.randint(0, 3) if abs(worth) == 1 else Fraction(0) for worth in worths]
    if not any(weights):
        weights[0] = Fraction(1)
    if rng.random() < 0.2:
        weights[rng.randrange(plots)] += 1
    question = pairs([sum(w * a for w, a in zip(weights, column)) for column in zip(*matrix_of(made[0]))])
    shares = pairs([abs(weight) / (sum(map(abs, weights)) or 1) for weight in weights])
    yield ("best shares", made, question, shares), (pairs(weights), barrier)
    yield ("best shares", made, question, some_shares(rng, plots)), (pairs(weights), barrier)
    yield ("best shares", made, question, shares), (pairs(weights), some_row(rng, size, 1))
    yield ("best shares", made, question, shares), (some_row(rng, plots, 1), barrier)
    doubled = pairs([2 * weight for weight in weights])
    yield ("best shares", made, pairs([2 * part for part in numbers(question)]), shares), (doubled, barrier)
    yield ("best shares", (made[0], row(*[2] * plots), ()), question, shares), (pairs(weights), barrier)
    yield ("best shares", (made[0], made[1], (0,) * plots), question, shares), (pairs(weights), barrier)


def about_losses(rng):
    made, question = some_asked(rng, 5)
    plots = len(made[0])
    fair = [some_fair(rng, made, question) for _ in range(rng.randint(1, 4))]
    for lot in combinations(range(plots), rng.randint(0, plots)):
        kept = [plot for plot in range(plots) if plot not in lot]
        less = tuple(tuple(part[plot] for plot in kept) if part else () for part in made)
        weights = some_fair(rng, less, question) if kept and fair[0] else None
        if weights:
            fair.append(tuple(dict(zip(kept, weights)).get(plot, (0, 1)) for plot in range(plots)))
    fair = tuple(fair) if fair[0] else (some_row(rng, plots, 1),)
    for many in range(plots + 1):
        yield ("outlasts", made, question, many), fair
        yield ("outlasts", made, question, many), fair[:1]
        yield ("outlasts", made, question, many), ()
        lot = tuple(sorted(rng.sample(range(plots), rng.randint(0, plots))))
        yield ("does not outlast", made, question, many), (lot, some_silent(rng, made, lot))
        yield ("does not outlast", made, question, many), (lot, (some_row(rng, unknowns(made), 1), some_row(rng, levels(made), 1)))


def about_effects(rng):
    factors = rng.randint(1, 5)
    words = some_words(rng, factors, rng.randint(0, 6))
    one, other = some_effect(rng, factors), some_effect(rng, factors)
    near = own_odd(one, rng.choice(own_products(words))[0])
    lots = [lot for many in range(len(words) + 1) for lot in combinations(range(len(words)), many)]
    for lot in rng.sample(lots, min(len(lots), 12)):
        for effect in (other, near):
            yield ("alike", factors, words, one, effect, rng.choice((1, -1))), lot
        yield ("empty piece", factors, words), lot
    runs = own_piece(factors, words) + rng.sample(own_runs(factors), 1)
    for _ in range(6):
        for effect in (other, near):
            yield ("apart", factors, words, one, effect), (rng.choice(runs), rng.choice(runs))


def about_plans(rng):
    factors = rng.randint(1, 5)
    runs = some_plan(rng, factors)[:16]
    words = some_words(rng, factors, rng.randint(0, 6))
    exact = own_piece(factors, words)
    if exact:
        rng.shuffle(exact)
        yield ("piece", tuple(exact)), words
        yield ("piece", tuple(exact)), tuple(rng.sample(words, len(words)))
        yield ("piece", tuple(exact)), words[:-1]
        yield ("piece", tuple(exact)), tuple(each for each in own_products(words) if each[0])[:6]
        yield ("piece", tuple(exact)), some_words(rng, factors, rng.randint(0, 6))
    yield ("piece", runs), words
    for plan in (runs, tuple(exact)[:16]):
        for _ in range(8 if plan else 0):
            lot = rng.sample(range(len(plan)), min(len(plan), rng.choice((1, 2, 2, 3, 3, 3, 4))))
            yield ("no piece", plan), tuple(sorted(lot))
        for many in range(1, 7) if plan else ():
            yield ("balanced", plan, many), ()
            yield ("not balanced", plan, many), rng.choice(own_effects(factors))


def about_changes(rng):
    made = table_trial(rng, rng.randint(1, 5), rng.choice((1, 3, 9, 10)), rng.random() < 0.5)
    for _ in range(4):
        deed = some_deed(rng, made, 0.4)
        later = behind(made, deed)
        yield ("change", made, deed, later or made), ()
        yield ("change", made, deed, table_trial(rng, unknowns(made), len(made[0]), made[2] != ())), ()
        yield ("no change", made, deed), ()
    yield ("no change", made, rng.choice((None, (), "strike", ("strike",), 0, [("strike", 0)]))), ()


def about_texts(rng):
    sheet = some_sheet(rng)
    text = own_text(sheet)
    at = rng.randrange(len(text))
    broken = rng.choice((text[:at] + rng.choice(" 01a\n") + text[at:], text[:at] + text[at + 1:], text[:at]))
    for made in (text, broken):
        told, line = own_read(made)
        yield ("read", made, sheet), ()
        yield ("read", made, told or sheet), ()
        yield ("not read", made, 0 if line is None else line), ()
        yield ("not read", made, rng.randrange(4)), ()


MAKERS = (about_questions, about_tables, about_two, about_kinds, about_shares, about_best_shares, about_losses, about_effects,
          about_plans, about_changes, about_texts)
