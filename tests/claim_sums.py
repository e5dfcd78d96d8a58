"""The tests' own checker: what is a claim, what is a paper for it, by forms and sums of their own, of whatever value.

Nothing here calls the package.
"""

from itertools import combinations
from math import gcd

from tests.deed_sums import own_made
from tests.factor_sums import (own_effects, own_is_balanced, own_is_missing, own_is_piece, own_odd, own_piece, own_product,
                               own_products, own_sign, own_sum)
from tests.sheet_sums import own_is_name, own_read
from tests.sums import (are_squares_of, determinant, matrix_of, minus_matrix, numbers, own_least_spread, own_solution,
                        own_sum_at, own_table, plots_by_block, product)
from tests.support import levels, number, own_answer, own_is_fair, own_is_load, own_is_shift, own_spread, own_yields

NIL, ONE = (0, 1), (1, 1)


def is_tuple(value, *sizes):
    return value.__class__ is tuple and (not sizes or len(value) in sizes)


def is_int(value, least=None, most=None):
    return value.__class__ is int and (least is None or least <= value) and (most is None or value <= most)


def is_fraction(value):
    return is_tuple(value, 2) and is_int(value[0]) and is_int(value[1], 1) and gcd(*value) == 1


def is_row(value, many):
    return is_tuple(value, many) and all(map(is_fraction, value))


def is_lot(value, many):
    """An ascending tuple of indexes, () let."""
    return is_tuple(value) and all(is_int(each, 0, many - 1) for each in value) and list(value) == sorted(set(value))


def is_trial(value):
    if not is_tuple(value, 3) or not all(map(is_tuple, value)) or not 1 <= len(value[0]) <= 10:
        return False
    rows, spreads, blocks = value
    width = len(rows[0]) if is_tuple(rows[0]) else 0
    right = 1 <= width <= 5 and all(is_row(each, width) for each in rows) and is_row(spreads, len(rows))
    return right and all(n > 0 for n, _ in spreads) and (
        blocks == () or (is_tuple(blocks, len(rows)) and all(is_int(block, 0, 4) for block in blocks)))


def is_world(made, value):
    return is_tuple(value, 2) and is_row(value[0], unknowns(made)) and is_row(value[1], levels(made))


def is_table(value):
    return is_tuple(value, 1, 2, 3, 4, 5) and all(is_row(line, len(value)) for line in value) and (
        all(value[i][j] == value[j][i] for i in range(len(value)) for j in range(i)))


def is_shares(made, value):
    return is_row(value, len(made[0])) and all(n >= 0 for n, _ in value) and sum(numbers(value)) == 1


def is_run(value, *sizes):
    return is_tuple(value, *(sizes or (1, 2, 3, 4, 5, 6))) and all(is_int(each) and each in (1, -1) for each in value)


def is_plan(value):
    return is_tuple(value, *range(1, 65)) and is_run(value[0]) and all(is_run(run, len(value[0])) for run in value)


def is_words(factors, value):
    return is_tuple(value, *range(7)) and all(
        is_tuple(word, 2) and is_lot(word[0], factors) and len(word[0]) > 0 and is_run(word[1:], 1) for word in value)


def is_squares(value, many):
    return is_tuple(value, *range(6)) and all(
        is_tuple(each, 2) and is_fraction(each[0]) and each[0][0] > 0 and is_row(each[1], many) for each in value)


def is_sheet(value):
    if not is_tuple(value, 3) or not is_tuple(value[0], 1, 2, 3, 4, 5) or not is_tuple(value[2], *range(9)):
        return False
    names, made, questions = value
    if not all(name.__class__ is str and own_is_name(name) for name in names) or len(set(names)) < len(names):
        return False
    if not is_trial(made) or unknowns(made) != len(names):
        return False
    if not all(is_tuple(each, 2) and each[0].__class__ is str and own_is_name(each[0]) and is_row(each[1], len(names))
               for each in questions):
        return False
    kept = [name for name, _ in questions]
    return kept == sorted(set(kept))


def is_deed(made, value):
    """Whether a value has the form of a deed, so that own_made may look whether it fits."""
    if not is_tuple(value, 2, 3, 4) or value[0].__class__ is not str:
        return False
    kind, *parts = value
    if kind == "put" and len(parts) == 3:
        return is_row(parts[0], unknowns(made)) and is_fraction(parts[1]) and (parts[2] is None or is_int(parts[2]))
    if len(parts) == 2:
        return is_int(parts[0]) and ((kind == "weigh" and is_fraction(parts[1])) or (kind == "block" and is_int(parts[1])))
    return len(parts) == 1 and ((kind == "strike" and is_int(parts[0]))
                                or (kind == "order" and is_tuple(parts[0]) and all(map(is_int, parts[0])))
                                or (kind == "unknown" and is_row(parts[0], len(made[0]))))


def unknowns(made):
    return len(made[0][0])


def behind(made, value):
    """The trial that a value makes as a deed; None."""
    return own_made(made, value) if is_deed(made, value) else None


def is_asked(made, question):
    """Whether a value is a trial, and another one a question of it."""
    return is_trial(made) and is_row(question, unknowns(made))


def are_fair(made, question, value):
    return is_row(value, len(made[0])) and own_is_fair(made, question, value)


def is_told(made, question):
    return own_least_spread(made, question) is not None


def told(made, question, paper):
    return is_asked(made, question) and are_fair(made, question, paper)


def not_told(made, question, paper):
    return is_asked(made, question) and is_world(made, paper) and own_is_shift(made, question, paper)


def best_telling(made, question, telling, paper):
    if not is_asked(made, question) or not are_fair(made, question, telling) or not is_world(made, paper):
        return False
    # No other fair telling has so little spread.
    return own_is_load(made, telling, paper) and own_spread(made, telling) == own_least_spread(made, question)


def least_spread(made, question, worth, paper):
    right = is_asked(made, question) and is_fraction(worth) and is_tuple(paper, 2)
    return right and best_telling(made, question, *paper) and own_least_spread(made, question) == number(worth)


def nowhere_below(table, paper):
    return is_table(table) and is_squares(paper, len(table)) and are_squares_of(paper, matrix_of(table))


def below_somewhere(table, paper):
    return is_table(table) and is_row(paper, len(table)) and own_sum_at(matrix_of(table), numbers(paper)) < 0


def are_two(one, other):
    return is_trial(one) and is_trial(other) and unknowns(one) == unknowns(other)


def at_least_as_good(one, other, paper):
    return are_two(one, other) and is_squares(paper, unknowns(one)) and are_squares_of(
        paper, minus_matrix(own_table(one), own_table(other)))


def not_as_good(one, other, paper):
    return are_two(one, other) and is_row(paper, unknowns(one)) and own_sum_at(
        minus_matrix(own_table(one), own_table(other)), numbers(paper)) < 0


def is_of_kinds(made):
    return is_trial(made) and made[2] != () and all(
        sorted(each) == [NIL] * (unknowns(made) - 1) + [ONE] for each in made[0])


def blocks_of_kinds(made):
    """The set of the kinds of each block with plots."""
    return [{made[0][plot].index(ONE) for plot in plots} for plots in plots_by_block(made).values()]


def are_kinds(made, kind, other):
    return is_of_kinds(made) and is_int(kind, 0, unknowns(made) - 1) and is_int(other, 0, unknowns(made) - 1)


def hang_together(made, kind, other, paper):
    if not are_kinds(made, kind, other) or not is_tuple(paper) or not all(is_int(each) for each in paper):
        return False
    if paper[:1] != (kind,) or paper[-1] != other or len(set(paper)) < len(paper):
        return False
    return all(any({one, more} <= kinds for kinds in blocks_of_kinds(made)) for one, more in zip(paper, paper[1:]))


def part(made, kind, other, paper):
    if not are_kinds(made, kind, other) or not is_lot(paper, unknowns(made)) or kind not in paper or other in paper:
        return False
    return all(kinds <= set(paper) or not kinds & set(paper) for kinds in blocks_of_kinds(made))


def even_handed(made, paper):
    if not is_of_kinds(made) or unknowns(made) < 2 or paper.__class__ is not tuple or paper != ():
        return False
    pairs = combinations(range(unknowns(made)), 2)
    differences = [tuple((int(k == i) - int(k == j), 1) for k in range(unknowns(made))) for i, j in pairs]
    spreads = {own_least_spread(made, question) for question in differences}
    return len(spreads) == 1 and None not in spreads


def share_matrix(made, shares):
    rows = matrix_of(made[0])
    worths = [number(share) / number(spread) for share, spread in zip(shares, made[1])]
    return [[sum(w * r[i] * r[j] for w, r in zip(worths, rows)) for j in range(len(rows[0]))] for i in range(len(rows[0]))]


def are_full(made, shares):
    """Whether a value is a trial without blocks, and another one full shares of it."""
    return is_trial(made) and made[2] == () and is_shares(made, shares) and determinant(share_matrix(made, shares)) != 0


def greatest_own_spread(made, shares):
    matrix = share_matrix(made, shares)
    return max(product(own_solution(matrix, line), line) / number(spread)
               for line, spread in zip(matrix_of(made[0]), made[1]))


def best_of_all(made, shares, paper):
    return are_full(made, shares) and is_tuple(paper, 0) and greatest_own_spread(made, shares) <= unknowns(made)


def not_best_of_all(made, shares, paper):
    return are_full(made, shares) and are_full(made, paper) and (
        determinant(share_matrix(made, paper)) > determinant(share_matrix(made, shares)))


def within(made, shares, worth, paper):
    return are_full(made, shares) and is_fraction(worth) and is_tuple(paper, 0) and (
        number(worth) >= (greatest_own_spread(made, shares) / unknowns(made)) ** unknowns(made))


def best_shares(made, question, shares, paper):
    if not is_asked(made, question) or made[2] != () or set(made[1]) != {ONE} or set(question) == {NIL}:
        return False
    if not is_shares(made, shares) or not is_tuple(paper, 2) or not are_fair(made, question, paper[0]):
        return False
    if not is_row(paper[1], unknowns(made)):
        return False
    barrier, sizes = numbers(paper[1]), [abs(weight) for weight in numbers(paper[0])]
    right = all(abs(product(barrier, line)) <= 1 for line in matrix_of(made[0]))
    right = right and product(barrier, numbers(question)) == sum(sizes)
    return right and [each / sum(sizes) for each in sizes] == numbers(shares)


def is_lost(made, question, many):
    return is_asked(made, question) and is_told(made, question) and is_int(many, 0, len(made[0]))


def outlasts(made, question, many, paper):
    if not is_lost(made, question, many) or not is_tuple(paper) or len(paper) == 0:
        return False
    if not all(are_fair(made, question, telling) for telling in paper):
        return False
    met = [{plot for plot, weight in enumerate(telling) if weight != NIL} for telling in paper]
    return not any(all(set(lot) & plots for plots in met) for lot in combinations(range(len(made[0])), many))


def does_not_outlast(made, question, many, paper):
    if not is_lost(made, question, many) or not is_tuple(paper, 2):
        return False
    lot, world = paper
    if not is_lot(lot, len(made[0])) or not 1 <= len(lot) <= many or not is_world(made, world):
        return False
    others = [worth for plot, worth in enumerate(own_yields(made, world)) if plot not in lot]
    return not any(others) and own_answer(question, world) != 0


def are_effects(factors, words, *effects):
    return is_int(factors, 1, 6) and is_words(factors, words) and all(is_lot(effect, factors) for effect in effects)


def is_product(words, paper, wanted):
    return is_lot(paper, len(words)) and own_product([words[at] for at in paper]) == wanted


def alike(factors, words, effect, other, sign, paper):
    return are_effects(factors, words, effect, other) and is_run((sign,), 1) and ((), -1) not in own_products(words) and (
        is_product(words, paper, (own_odd(effect, other), sign)))


def apart(factors, words, effect, other, paper):
    if not are_effects(factors, words, effect, other) or not is_tuple(paper, 2):
        return False
    if not all(is_run(run, factors) and run in own_piece(factors, words) for run in paper):
        return False
    return len({own_sign(run, effect) * own_sign(run, other) for run in paper}) == 2


def empty_piece(factors, words, paper):
    return are_effects(factors, words) and is_product(words, paper, ((), -1))


def piece(runs, paper):
    return is_plan(runs) and is_words(len(runs[0]), paper) and own_is_piece(runs) and (
        own_piece(len(runs[0]), paper) == sorted(runs))


def no_piece(runs, paper):
    return is_plan(runs) and is_lot(paper, len(runs)) and own_is_missing(runs, paper)


def balanced(runs, many, paper):
    return is_plan(runs) and is_int(many, 1, 6) and is_tuple(paper, 0) and own_is_balanced(runs, many)


def not_balanced(runs, many, paper):
    return is_plan(runs) and is_int(many, 1, 6) and is_tuple(paper) and is_lot(paper, len(runs[0])) and (
        paper in own_effects(len(runs[0])) and 1 <= len(paper) <= many and own_sum(runs, paper) != 0)


def change(made, deed, other, paper):
    return is_trial(made) and is_trial(other) and is_tuple(paper, 0) and behind(made, deed) == other


def no_change(made, deed, paper):
    return is_trial(made) and is_tuple(paper, 0) and behind(made, deed) is None


def read(text, sheet, paper):
    return text.__class__ is str and is_sheet(sheet) and is_tuple(paper, 0) and own_read(text) == (sheet, None)


def not_read(text, line, paper):
    return text.__class__ is str and is_int(line) and is_tuple(paper, 0) and own_read(text) == (None, line)


# What is a paper for a claim, by its text, and how many other elements the claim has.
OWN_CHECKS = {
    "told": (2, told), "not told": (2, not_told), "best telling": (3, best_telling), "least spread": (3, least_spread),
    "nowhere below": (1, nowhere_below), "below somewhere": (1, below_somewhere), "at least as good": (2, at_least_as_good),
    "not as good": (2, not_as_good), "hang together": (3, hang_together), "part": (3, part), "even-handed": (1, even_handed),
    "best of all": (2, best_of_all), "not best of all": (2, not_best_of_all), "within": (3, within),
    "best shares": (3, best_shares), "outlasts": (3, outlasts), "does not outlast": (3, does_not_outlast), "alike": (5, alike),
    "apart": (4, apart), "empty piece": (2, empty_piece), "piece": (1, piece), "no piece": (1, no_piece),
    "balanced": (2, balanced), "not balanced": (2, not_balanced), "change": (3, change), "no change": (2, no_change),
    "read": (2, read), "not read": (2, not_read),
}


def own_accepts(claim, paper):
    if not is_tuple(claim) or not claim or claim[0].__class__ is not str or claim[0] not in OWN_CHECKS:
        return False
    size, check = OWN_CHECKS[claim[0]]
    return bool(len(claim) == size + 1 and check(*claim[1:], paper))
