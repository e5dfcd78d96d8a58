"""Factors, effects and their signs; words, their products, and the pieces of runs that agree with them."""

from itertools import combinations

from trialground.errors import InvalidLot, InvalidNumber, InvalidRuns, InvalidWords, Unfit
from trialground.lots import is_lot, wrong_in_lot
from trialground.ratios import is_whole

MOST_FACTORS = 6
MOST_WORDS = 6
NOTHING_SAID = ((), 1)
CONTRARY = ((), -1)


def effect_sign(run, effect):
    """The sign of an effect in a run."""
    if not is_run(run):
        raise InvalidRuns(None)
    check_effect(len(run), effect)
    return sign_in(run, effect)


def odd_lot(factors, effect, other):
    """The factors that are in just one of two effects."""
    _check_factors(factors)
    check_effect(factors, effect)
    check_effect(factors, other)
    return odd_of(effect, other)


def products(factors, words):
    """The ascending tuple of all products of words."""
    check_words(factors, words)
    return tuple(sorted(products_of(words)))


def piece(factors, words):
    """The ascending tuple of the runs that have each word's sign."""
    check_words(factors, words)
    return piece_of(factors, words)


def alike(factors, words, effect, other):
    """The sign with which two effects are alike in a piece; 0 if they are apart."""
    check_words(factors, words)
    check_effect(factors, effect)
    check_effect(factors, other)
    check_some_run(words)
    return dict(products_of(words)).get(odd_of(effect, other), 0)


def classes(factors, words):
    """The ascending tuple of the ascending tuples of effects that are alike in a piece."""
    check_words(factors, words)
    check_some_run(words)
    odd_lots = [effect for effect, _ in products_of(words)]
    return tuple(sorted({_class_of(effect, odd_lots) for effect in effects_up_to(factors, factors)}))


def shortest(factors, words):
    """The least number of factors of a product's effect other than (); None."""
    check_words(factors, words)
    check_some_run(words)
    return min([len(effect) for effect, _ in products_of(words) if effect != ()], default=None)


def check_effect(factors, effect):
    """Raise InvalidLot for no effect of so many factors."""
    if not isinstance(effect, tuple):
        raise InvalidLot(None)
    at = wrong_in_lot(effect, factors)
    if at is not None:
        raise InvalidLot(at)


def check_words(factors, words):
    """Raise InvalidNumber for no number of factors, InvalidWords for no words of them."""
    _check_factors(factors)
    if not isinstance(words, tuple) or len(words) > MOST_WORDS:
        raise InvalidWords(None)
    for index, word in enumerate(words):
        if not _is_word(factors, word):
            raise InvalidWords(index)


def check_some_run(words):
    """Raise Unfit for words whose piece is empty."""
    if CONTRARY in products_of(words):
        raise Unfit(words)


def is_run(value):
    """Tell whether a value is a run of 1 to 6 factors."""
    return isinstance(value, tuple) and 1 <= len(value) <= MOST_FACTORS and all(is_sign(sign) for sign in value)


def is_sign(value):
    """Tell whether a value is one of the whole numbers 1 and -1."""
    return is_whole(value) and abs(value) == 1


def sign_in(run, effect):
    """The sign of what is known to be an effect in a run."""
    sign = 1
    for factor in effect:
        sign = sign * run[factor]
    return sign


def odd_of(effect, other):
    """The odd lot of what are known to be effects."""
    return tuple(sorted(set(effect) ^ set(other)))


def effects_up_to(factors, many):
    """All effects of up to so many factors, those of fewer ones first."""
    most = min(factors, many)
    return [effect for size in range(most + 1) for effect in combinations(range(factors), size)]


def products_of(words):
    """All products of what are known to be words, in any order."""
    found = [NOTHING_SAID]
    for word in words:
        more = [_joined(each, word) for each in found]
        found = found + [each for each in more if each not in found]
    return found


def product_of(words):
    """The product of all of some words."""
    made = NOTHING_SAID
    for word in words:
        made = _joined(made, word)
    return made


def lot_for(words, wanted):
    """Any ascending tuple of the indexes of words with a product; None."""
    for size in range(len(words) + 1):
        for lot in combinations(range(len(words)), size):
            if product_of([words[at] for at in lot]) == wanted:
                return lot
    return None


def piece_of(factors, words):
    """The piece of what are known to be words of so many factors."""
    runs = [()]
    for _ in range(factors):
        runs = [run + (sign,) for run in runs for sign in (-1, 1)]
    return tuple([run for run in runs if agrees(run, words)])


def agrees(run, words):
    """Tell whether each word's effect has its sign in a run."""
    return all([sign_in(run, effect) == sign for effect, sign in words])


def _check_factors(factors):
    """Raise InvalidNumber for no number of factors."""
    if not is_whole(factors) or not 1 <= factors <= MOST_FACTORS:
        raise InvalidNumber(factors)


def _is_word(factors, value):
    """Tell whether a value is a pair of an effect of so many factors, not (), and a sign."""
    if not isinstance(value, tuple) or len(value) != 2:
        return False
    effect, sign = value
    return is_lot(effect, factors) and len(effect) > 0 and is_sign(sign)


def _joined(made, word):
    """A product with a word more."""
    return (odd_of(made[0], word[0]), made[1] * word[1])


def _class_of(effect, odd_lots):
    """The ascending tuple of the effects that have one of the odd lots with an effect."""
    return tuple(sorted([odd_of(effect, each) for each in odd_lots]))
