"""Trials of kinds: ways, parts, differences, even-handed ones (points 16 and 17)."""

import random
import unittest
from fractions import Fraction
from itertools import combinations, permutations

from tests.sums import of_kinds, own_least_spread, own_table, plots_by_block, reordered
from tests.support import number, pair, row, trial
from trialground.kinds import difference_spread, is_even_handed, is_of_kinds, parts_of, way_between

PAIRS = of_kinds((0, 1, 1, 2, 0, 2), 3, (0, 0, 1, 1, 2, 2))
# Kind 3 has no plot; kinds 0 and 2 stand apart from 1 and 4.
APART = of_kinds((0, 2, 1, 4, 4, 2), 5, (0, 0, 1, 1, 3, 4))


def kinds_of(of_trial):
    return [each.index((1, 1)) for each in of_trial[0]]


def own_parts(of_trial):
    """The kinds that hang together, by joining what stands in one block until nothing changes."""
    kinds = kinds_of(of_trial)
    lots = [{kind} for kind in range(len(of_trial[0][0]))]
    for plots in plots_by_block(of_trial).values():
        together = {kinds[plot] for plot in plots}
        met = set().union(together, *[lot for lot in lots if lot & together])
        lots = [lot for lot in lots if not lot & together] + [met]
    return sorted(tuple(sorted(lot)) for lot in lots)


def is_way(of_trial, kind, other, way):
    """Whether it is a way from the one kind to the other, as point 16 tells."""
    kinds, blocks = kinds_of(of_trial), of_trial[2]
    if way.__class__ is not tuple or len(set(way)) != len(way) or (way[0], way[-1]) != (kind, other):
        return False
    stands = set(zip(kinds, blocks))
    return all(any((one, block) in stands and (next_one, block) in stands for block in range(5))
               for one, next_one in zip(way, way[1:]))


def difference(unknowns, kind, other):
    return row(*[int(k == kind) - int(k == other) for k in range(unknowns)])


def some_of_kinds(rng, unknowns, plots):
    lot = rng.sample(range(unknowns), rng.randint(1, unknowns))
    kinds = [rng.choice(lot) for _ in range(plots)]
    blocks = [rng.choice(rng.choice(((0, 1, 2, 3, 4), (1, 4)))) for _ in range(plots)]
    spreads = [Fraction(rng.randint(1, 3), rng.randint(1, 2)) for _ in range(plots)]
    return of_kinds(kinds, unknowns, blocks, spreads)


def some_trials_of_kinds(seed, many):
    rng = random.Random(seed)
    return [some_of_kinds(rng, 1 + k % 5, rng.randint(1, 10)) for k in range(many)]


class OfKinds(unittest.TestCase):

    def test_right_ones(self):
        for made in (PAIRS, APART, trial([(1,)], [1], (0,)), trial([(0, 1)] * 2, [3, "1/2"], (4, 4))):
            self.assertIs(is_of_kinds(made), True)
        for made in some_trials_of_kinds(1, 60):
            self.assertIs(is_of_kinds(made), True)

    def test_without_blocks(self):
        for made in [PAIRS, APART] + some_trials_of_kinds(2, 20):
            self.assertIs(is_of_kinds(made[:2] + ((),)), False)

    def test_rows_that_are_nearly_of_kinds(self):
        for bad in ((2, 0, 0), (1, 1, 0), (1, 0, 1), (1, 1, 1), ("1/2", "1/2", 0), (0, 0, 0), (-1, 0, 0), (1, -1, 1),
                    ("1/2", 0, 0), (1, 0, "1/9"), (1, -1, 0)):
            for at in range(4):
                rows = [(1, 0, 0), (0, 1, 0), (0, 0, 1), (0, 1, 0)]
                self.assertIs(is_of_kinds(trial(rows, None, (0, 0, 1, 1))), True)
                rows[at] = bad
                self.assertIs(is_of_kinds(trial(rows, None, (0, 0, 1, 1))), False)
        self.assertIs(is_of_kinds(trial([(2,)], [1], (0,))), False)
        self.assertIs(is_of_kinds(trial([(0,)], [1], (0,))), False)


class Ways(unittest.TestCase):

    def test_by_hand(self):
        chain = of_kinds((0, 1, 1, 2, 2, 3), 4, (0, 0, 2, 2, 4, 4))
        self.assertEqual(way_between(chain, 0, 3), (0, 1, 2, 3))
        self.assertEqual(way_between(chain, 3, 1), (3, 2, 1))
        self.assertEqual(way_between(chain, 2, 2), (2,))
        self.assertEqual(way_between(APART, 3, 3), (3,))
        self.assertEqual(way_between(APART, 4, 1), (4, 1))
        self.assertIsNone(way_between(APART, 0, 1))
        self.assertIsNone(way_between(APART, 0, 3))
        self.assertIsNone(way_between(APART, 3, 4))
        # A block number alone does not join: each plot stands in a block of its own.
        self.assertIsNone(way_between(of_kinds((0, 1), 2, (0, 1)), 0, 1))
        self.assertEqual(way_between(of_kinds((0, 0, 1), 2, (3, 3, 3)), 1, 0), (1, 0))

    def test_ways_are_ways_and_none_exactly_if_apart(self):
        met = {True: 0, False: 0}
        for made in some_trials_of_kinds(3, 200):
            parts = own_parts(made)
            unknowns = range(len(made[0][0]))
            for kind in unknowns:
                for other in unknowns:
                    together = any(kind in part and other in part for part in parts)
                    way = way_between(made, kind, other)
                    met[together] += 1
                    if together:
                        self.assertTrue(is_way(made, kind, other, way), (made, kind, other, way))
                    else:
                        self.assertIsNone(way)
                    if kind == other:
                        self.assertEqual(way, (kind,))
        self.assertGreater(min(met.values()), 200)


class Parts(unittest.TestCase):

    def test_by_hand(self):
        self.assertEqual(parts_of(PAIRS), ((0, 1, 2),))
        self.assertEqual(parts_of(APART), ((0, 2), (1, 4), (3,)))
        self.assertEqual(parts_of(of_kinds((0, 4, 4, 2), 5, (0, 0, 1, 1))), ((0, 2, 4), (1,), (3,)))
        self.assertEqual(parts_of(of_kinds((0,), 1, (4,))), ((0,),))
        self.assertEqual(parts_of(of_kinds((2, 2), 3, (0, 0))), ((0,), (1,), (2,)))

    def test_against_own_look(self):
        rng = random.Random(4)
        for made in some_trials_of_kinds(4, 200):
            told = parts_of(made)
            self.assertIs(told.__class__, tuple)
            self.assertEqual(list(told), own_parts(made))
            self.assertEqual(parts_of(reordered(made, rng.sample(range(len(made[0])), len(made[0])))), told)


class Differences(unittest.TestCase):

    def test_by_hand(self):
        self.assertEqual(difference_spread(of_kinds((0, 1), 2, (0, 0)), 0, 1), (2, 1))
        self.assertEqual(difference_spread(of_kinds((0, 1), 2, (0, 0), [1, "1/3"]), 1, 0), (4, 3))
        # Along a way of two steps the spreads of both add up.
        self.assertEqual(difference_spread(of_kinds((0, 1, 1, 2), 3, (0, 0, 1, 1)), 0, 2), (4, 1))
        self.assertEqual(difference_spread(PAIRS, 1, 1), (0, 1))
        self.assertEqual(difference_spread(APART, 3, 3), (0, 1))
        self.assertIsNone(difference_spread(APART, 0, 1))

    def test_against_own_least_spreads(self):
        met = {True: 0, False: 0}
        for made in some_trials_of_kinds(5, 80):
            parts = own_parts(made)
            unknowns = len(made[0][0])
            for kind in range(unknowns):
                self.assertEqual(difference_spread(made, kind, kind), (0, 1))
                for other in range(unknowns):
                    told = difference_spread(made, kind, other)
                    least = own_least_spread(made, difference(unknowns, kind, other))
                    self.assertEqual(told, None if least is None else pair(least))
                    together = any(kind in part and other in part for part in parts)
                    self.assertEqual(told is not None, together)
                    met[together] += 1
        self.assertGreater(min(met.values()), 80)


def handed_evenly(made):
    """Whether all differences are told with one least spread, by the test's own equations."""
    unknowns = len(made[0][0])
    if unknowns == 1:
        return False
    spreads = {own_least_spread(made, difference(unknowns, *both)) for both in permutations(range(unknowns), 2)}
    return len(spreads) == 1 and None not in spreads


def pairs_design(kinds):
    """Each pair of kinds stands in one block once, as many blocks as are let."""
    pairs = list(combinations(range(kinds), 2))[:5]
    return of_kinds([kind for both in pairs for kind in both], kinds, [k for k in range(len(pairs)) for _ in range(2)])


class EvenHanded(unittest.TestCase):

    def check(self, made):
        told = is_even_handed(made)
        self.assertIs(told, handed_evenly(made))
        if told:
            table = own_table(made)
            least = 2 / (table[0][0] - table[0][1])
            for kind, other in permutations(range(len(table)), 2):
                self.assertEqual(number(difference_spread(made, kind, other)), least)
        return told

    def test_by_hand(self):
        self.assertTrue(self.check(PAIRS))
        self.assertTrue(self.check(pairs_design(2)))
        self.assertTrue(self.check(of_kinds((0, 1), 2, (3, 3), [1, 7])))
        self.assertFalse(self.check(APART))

    def test_one_kind(self):
        for blocks in ((0,), (0, 0), (0, 1, 1)):
            made = of_kinds((0,) * len(blocks), 1, blocks)
            self.assertIs(is_even_handed(made), False)

    def test_all_kinds_in_each_block(self):
        for kinds in range(2, 6):
            for times in range(1, 10 // kinds + 1):
                blocks = [block for block in range(times) for _ in range(kinds)]
                self.assertTrue(self.check(of_kinds(list(range(kinds)) * times, kinds, blocks)))
                # One spread in each block, another one in each.
                spreads = [Fraction(block + 1, 2) for block in blocks]
                self.assertTrue(self.check(of_kinds(list(range(kinds)) * times, kinds, blocks, spreads)))

    def test_a_block_that_tells_nothing_more(self):
        self.assertTrue(self.check(of_kinds((0, 1, 2, 0, 0), 3, (0, 0, 0, 2, 2))))
        self.assertTrue(self.check(of_kinds((0, 1, 2, 2), 3, (1, 1, 1, 3))))

    def test_a_plot_more_less_or_moved(self):
        rows, spreads, blocks = PAIRS
        for kind in range(3):
            for block in range(5):
                more = of_kinds(kinds_of(PAIRS) + [kind], 3, blocks + (block,))
                # Alone in its block it says nothing; elsewhere one pair comes more often.
                self.assertEqual(self.check(more), block > 2)
        for at in range(6):
            self.assertFalse(self.check((rows[:at] + rows[at + 1:], spreads[1:], blocks[:at] + blocks[at + 1:])))
            for block in range(5):
                moved = (rows, spreads, blocks[:at] + (block,) + blocks[at + 1:])
                self.assertEqual(self.check(moved), block == blocks[at])

    def test_a_plot_of_another_spread(self):
        rows, spreads, blocks = PAIRS
        for at in range(6):
            for spread in ((1, 2), (10 ** 40 + 1, 10 ** 40)):
                self.assertFalse(self.check((rows, spreads[:at] + (spread,) + spreads[at + 1:], blocks)))
        # Two kinds have one difference, whatever the spreads are.
        self.assertTrue(self.check(of_kinds((0, 1, 0, 1), 2, (0, 0, 1, 1), [1, 2, 3, 4])))

    def test_rings_of_kinds_and_pairs_apart(self):
        for kinds in range(3, 6):
            ring = [kind for k in range(kinds) for kind in (k, (k + 1) % kinds)]
            made = of_kinds(ring, kinds, [k for k in range(kinds) for _ in range(2)])
            self.assertEqual(self.check(made), kinds == 3)
        self.assertFalse(self.check(of_kinds((0, 1, 2, 3), 4, (0, 0, 1, 1))))
        self.assertFalse(self.check(of_kinds((0, 1), 3, (0, 0))))
        # Told by nothing at all: one number everywhere, but none above 0.
        self.assertFalse(self.check(of_kinds((0, 1), 2, (0, 1))))
        self.assertFalse(self.check(of_kinds((0, 1, 2), 3, (0, 1, 4))))

    def test_one_number_on_the_diagonal_alone(self):
        # A ring of four: 1 everywhere on the diagonal, - 1/2 or 0 beside.
        ring = of_kinds((0, 1, 1, 2, 2, 3, 3, 0), 4, (0, 0, 1, 1, 2, 2, 3, 3))
        self.assertEqual([own_table(ring)[k][k] for k in range(4)], [1] * 4)
        self.assertFalse(self.check(ring))

    def test_against_own_least_spreads(self):
        rng = random.Random(6)
        met = {True: 0, False: 0}
        for k in range(150):
            made = some_of_kinds(rng, 2 + k % 4, rng.randint(4, 10))
            if k % 3 == 0:
                kinds, times = rng.choice(((2, 5), (3, 3), (4, 2), (5, 2)))
                blocks = [rng.choice((0, 2)) for _ in range(times) for _ in range(1)]
                made = of_kinds(list(range(kinds)) * times, kinds, [b for b in blocks for _ in range(kinds)])
            met[self.check(made)] += 1
        self.assertGreater(min(met.values()), 30)


if __name__ == "__main__":
    unittest.main()
