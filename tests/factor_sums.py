"""The tests' own ways with factors, words and plans; nothing here calls the package."""

import itertools


def own_sign(run, effect):
    sign = 1
    for factor in effect:
        sign *= run[factor]
    return sign


def own_odd(effect, other):
    return tuple(factor for factor in range(6) if (factor in effect) != (factor in other))


def own_runs(factors):
    return list(itertools.product((-1, 1), repeat=factors))


def own_effects(factors):
    return [effect for size in range(factors + 1) for effect in itertools.combinations(range(factors), size)]


def own_product(words):
    """The product of all words: each factor that is in an odd number of them, and how many signs are below 0."""
    effect = tuple(factor for factor in range(6) if sum(factor in its for its, _ in words) % 2)
    return (effect, (-1) ** sum(sign < 0 for _, sign in words))


def own_products(words):
    found = set()
    for chosen in itertools.product((False, True), repeat=len(words)):
        found.add(own_product([word for word, let in zip(words, chosen) if let]))
    return sorted(found)


def own_piece(factors, words):
    return [run for run in own_runs(factors) if all(own_sign(run, effect) == sign for effect, sign in words)]


def own_alike(runs, effect, other):
    """1 or -1 for effects alike in all of some runs, 0 if the sum of both signs' products is 0; None for neither."""
    made = [own_sign(run, effect) * own_sign(run, other) for run in runs]
    if len(set(made)) == 1:
        return made[0]
    return 0 if sum(made) == 0 else None


def own_sum(runs, effect):
    return sum(own_sign(run, effect) for run in runs)


def own_is_balanced(runs, many):
    """As the document tells it: all rows of signs come as often, in each lot of so many factors."""
    factors = len(runs[0])
    for lot in itertools.combinations(range(factors), min(many, factors)):
        counts = {signs: 0 for signs in own_runs(len(lot))}
        for run in runs:
            counts[tuple(run[factor] for factor in lot)] += 1
        if len(set(counts.values())) > 1:
            return False
    return True


def own_is_piece(runs):
    """A plan of unlike runs is a piece exactly if each three of its runs have their product in it."""
    known = set(runs)
    if len(known) < len(runs):
        return False
    return all(tuple(a * b * c for a, b, c in zip(*three)) in known for three in itertools.combinations(runs, 3))


def own_is_missing(runs, told):
    """Whether indexes show, as the document tells it, that a plan is no piece."""
    if told.__class__ is not tuple or list(told) != sorted(set(told)) or not set(told) <= set(range(len(runs))):
        return False
    if len(told) == 2:
        return runs[told[0]] == runs[told[1]]
    product = tuple(a * b * c for a, b, c in zip(*[runs[k] for k in told])) if len(told) == 3 else runs[0]
    return product not in runs


def some_effect(rng, factors, least=0):
    size = rng.randint(least, factors)
    return tuple(sorted(rng.sample(range(factors), size)))


def some_words(rng, factors, many):
    """So many words; some of them are odd lots of two others, come twice, or with the other sign."""
    words = []
    while len(words) < many:
        kind = rng.randrange(6)
        word = (some_effect(rng, factors, 1), rng.choice((1, -1)))
        if words and kind == 0:
            word = rng.choice(words)
        elif words and kind == 1 and rng.random() < 0.3:
            effect, sign = rng.choice(words)
            word = (effect, -sign)
        elif len(words) > 1 and kind in (2, 3):
            (one, sign), (other, more) = rng.sample(words, 2)
            if own_odd(one, other):
                word = (own_odd(one, other), sign * more * rng.choice((1, 1, 1, -1)))
        words.append(word)
    return tuple(words)


def word_cases(rng, many):
    """Pairs of factors and words: so many for each number of both."""
    for factors in range(1, 7):
        for size in range(7):
            for _ in range(many):
                yield factors, some_words(rng, factors, size)


def some_plan(rng, factors):
    """A plan: a piece in any order, with a run more, less, another way or twice, two pieces together, or any runs."""
    runs = own_runs(factors)
    kind = rng.randrange(9)
    plan = []
    while not plan:
        plan = own_piece(factors, some_words(rng, factors, rng.randint(0, min(6, factors + 1))))
    rng.shuffle(plan)
    at = rng.randrange(len(plan))
    if kind == 1:
        plan.insert(at, rng.choice(runs))
    elif kind == 2 and len(plan) > 1:
        del plan[at]
    elif kind == 3:
        turned = rng.randrange(factors)
        plan[at] = tuple(-sign if k == turned else sign for k, sign in enumerate(plan[at]))
    elif kind == 4:
        plan.insert(rng.randrange(len(plan) + 1), plan[at])
    elif kind == 5:
        plan = plan + own_piece(factors, some_words(rng, factors, rng.randint(1, 3)))
    elif kind == 6:
        plan = plan[:1]
    elif kind == 7:
        plan = [rng.choice(runs) for _ in range(rng.choice((1, 2, 3, 4, 5, 8, 16, 33, 64)))]
    elif kind == 8:
        plan = plan + plan
    rng.shuffle(plan)
    return tuple(plan[:64])
