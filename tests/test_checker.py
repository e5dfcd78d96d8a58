"""Claims and papers that the checker accepts, and those that it does not (point 31)."""

import random
import unittest

from tests.claim_cases import MAKERS
from tests.claim_sums import OWN_CHECKS, own_accepts
from tests.factor_sums import own_runs
from tests.sheet_sums import BEDS, BENCH, own_text
from tests.sums import of_kinds
from tests.support import STRANGE, nested, row, trial
from trialground.checker import accepts

SCALE = trial([(1, 0), (0, 1), (1, 1)])
TWICE = trial([(1, 1), (1, 1)])
PAIRS = of_kinds((0, 1, 1, 2, 0, 2), 3, (0, 0, 1, 1, 2, 2))
PARTS = of_kinds((0, 1, 2), 3, (0, 0, 1))
WORDS = (((0, 1, 2), 1),)
HALF = ((-1, -1, 1), (-1, 1, -1), (1, -1, -1), (1, 1, 1))
TEXT = own_text(BENCH)
THIRDS = row("1/3", "1/3", "1/3")
# A claim of each kind with a paper that is accepted.
RIGHT = (
    (("told", SCALE, row(1, 0)), row(1, 0, 0)), (("told", SCALE, row(1, 0)), row(0, -1, 1)), (("told", TWICE, row(0, 0)), row(0, 0)),
    (("not told", TWICE, row(1, 0)), (row(1, -1), ())), (("not told", BEDS[1][:2] + ((0, 1, 2),), row(2)), (row(1), row(-1, 0, -1))),
    (("best telling", SCALE, row(1, 0), row("2/3", "-1/3", "1/3")), (row("2/3", "-1/3"), ())),
    (("best telling", TWICE, row(1, 1), row("1/2", "1/2")), (row(7, "-13/2"), ())),
    (("least spread", SCALE, row(1, 0), (2, 3)), (row("2/3", "-1/3", "1/3"), (row("2/3", "-1/3"), ()))),
    (("nowhere below", (row(2, 1), row(1, 2))), (((1, 1), row(1, 1)), ((1, 1), row(1, 0)), ((1, 1), row(0, 1)))),
    (("nowhere below", (row(0),)), ()), (("nowhere below", (row(4),)), (((1, 1), row(2)),)),
    (("below somewhere", (row(1, 2), row(2, 1))), row(1, -1)), (("below somewhere", (row("-1/9"),)), row(-3)),
    (("at least as good", SCALE, trial([(1, 0), (0, 1)])), (((1, 1), row(1, 1)),)), (("at least as good", SCALE, SCALE), ()),
    (("not as good", trial([(1, 0), (0, 1)]), SCALE), row(1, 1)),
    (("hang together", PAIRS, 0, 2), (0, 2)), (("hang together", PAIRS, 0, 2), (0, 1, 2)), (("hang together", PARTS, 2, 2), (2,)),
    (("part", PARTS, 0, 2), (0, 1)), (("part", PARTS, 2, 0), (2,)), (("even-handed", PAIRS), ()),
    (("best of all", SCALE, THIRDS), ()), (("not best of all", SCALE, row("1/2", "1/2", 0)), THIRDS),
    (("within", SCALE, THIRDS, (1, 1)), ()), (("within", SCALE, row("1/2", "1/2", 0), (9, 2)), ()),
    (("best shares", trial([(1, 0), (1, 1), (1, 2)]), row(0, 1), row("1/2", 0, "1/2")), (row("-1/2", 0, "1/2"), row(-1, 1))),
    (("outlasts", SCALE, row(1, 0), 1), (row(1, 0, 0), row(0, -1, 1))), (("outlasts", SCALE, row(1, 0), 0), (row(1, 0, 0),)),
    (("outlasts", SCALE, row(0, 0), 3), (row(0, 0, 0),)), (("does not outlast", SCALE, row(1, 0), 2), ((0, 1), (row(1, -1), ()))),
    (("does not outlast", SCALE, row(1, 0), 3), ((0, 1, 2), (row(1, 0), ()))),
    (("alike", 3, WORDS, (0,), (1, 2), 1), (0,)), (("alike", 3, WORDS * 3, (0,), (1, 2), 1), (0, 1, 2)),
    (("alike", 3, WORDS, (0,), (0,), 1), ()), (("alike", 2, (((0,), -1), ((1,), -1)), (), (0,), -1), (0,)),
    (("apart", 3, WORDS, (0,), (1,)), (HALF[0], HALF[1])), (("apart", 1, (), (), (0,)), ((1,), (-1,))),
    (("empty piece", 2, (((0,), 1), ((0, 1), 1), ((1,), -1))), (0, 1, 2)), (("piece", HALF[::-1]), WORDS),
    (("piece", ((1,), (-1,))), ()), (("no piece", HALF[:3]), (0, 1, 2)), (("no piece", (HALF[0],) * 2), (0, 1)),
    (("balanced", HALF, 2), ()), (("balanced", tuple(own_runs(2)), 6), ()), (("not balanced", HALF, 3), (0, 1, 2)),
    (("change", SCALE, ("strike", 0), trial([(0, 1), (1, 1)])), ()), (("no change", SCALE, ("strike", 3)), ()),
    (("no change", SCALE, None), ()), (("read", TEXT, BENCH), ()), (("not read", "unknowns\n", 0), ()), (("not read", TEXT[:-1], 5), ()),
)
# Claims that are not accepted with these papers, each wrong in one way alone.
WRONG = (
    (("told", SCALE, row(1, 0)), (row(1, 0, 0), ())), (("told", trial([(1, 0)] * 11), row(1, 0)), row(1, *[0] * 10)),
    (("told", trial([(1,) * 6]), row(*[1] * 6)), row(1)), (("told", trial([(1,)], [0]), row(1)), row(1)),
    (("told", trial([(1,), (0,)], None, (5, 5)), row(1)), row(1, -1)), (("not told", TWICE, row(1, 1)), (row(1, -1), ())),
    (("not told", TWICE, row(1, 0)), (row(1, -1),)), (("not told", TWICE, row(1, 0)), (row(1, -1), row(0))),
    (("best telling", SCALE, row(1, 0), row(1, 0, 0)), (row("2/3", "-1/3"), ())),
    (("best telling", SCALE, row(1, 1), row("2/3", "-1/3", "1/3")), (row("2/3", "-1/3"), ())),
    (("least spread", SCALE, row(1, 0), (1, 1)), (row(1, 0, 0), (row(1, 0), ()))),
    (("least spread", SCALE, row(1, 0), (1, 1)), (row("2/3", "-1/3", "1/3"), (row("2/3", "-1/3"), ()))),
    (("nowhere below", (row(1),)), tuple([((1, 6), row(1))] * 6)), (("nowhere below", (row(0),)), (((1, 1), row(0)),) * 6),
    (("nowhere below", (row(-1),)), (((-1, 1), row(1)),)), (("nowhere below", (row(0),)), (((0, 1), row(1)),)),
    (("below somewhere", (row(1, 2), row(3, 1))), row(1, -1)), (("below somewhere", (row(0, 0), row(0, 0))), row(1, 1)),
    (("at least as good", SCALE, trial([(1,)])), ()), (("not as good", trial([(1,)]), SCALE), row(1, 1)),
    (("hang together", PAIRS, 0, 2), (0, 1)), (("hang together", PAIRS, 0, 2), (0, 1, 0, 2)), (("hang together", PAIRS, 0, 0), (0, 1, 0)),
    (("hang together", PAIRS, 0, 0), ()), (("hang together", PAIRS, 0, -1), (0, 2)), (("hang together", PAIRS, 0, 2), (0, -1, 2)),
    (("hang together", PARTS, 0, 2), (0, 2)), (("hang together", SCALE, 0, 1), (0, 1)), (("hang together", PAIRS, 3, 3), (3,)),
    (("part", PARTS, 0, 2), (0,)), (("part", PARTS, 0, 2), (1, 0)), (("part", PARTS, 0, 2), (0, 1, 2)), (("part", PARTS, 0, 0), ()),
    (("part", PARTS, 0, 2), (-3, 0, 1)), (("part", PARTS, 0, 3), (0, 1)), (("even-handed", of_kinds((0, 0), 1, (0, 0))), ()),
    (("even-handed", PARTS), ()), (("even-handed", SCALE), ()), (("best of all", SCALE, row("1/2", "1/2", 0)), ()),
    (("best of all", SCALE, row(1, 0, 0)), ()), (("best of all", SCALE[:2] + ((0, 1, 2),), THIRDS), ()),
    (("best of all", SCALE, THIRDS), THIRDS), (("not best of all", SCALE, THIRDS), THIRDS),
    (("not best of all", SCALE, row(1, 0, 0)), THIRDS), (("not best of all", SCALE, row("1/2", "1/2", 0)), row("1/2", 0, "1/2")),
    (("not best of all", SCALE, row("1/2", "1/2", 0)), row("2/3", "2/3", "2/3")),
    (("within", SCALE, row("1/2", "1/2", 0), (3, 1)), ()), (("within", SCALE, THIRDS, 1), ()), (("within", SCALE, row(1, 0, 0), (9, 1)), ()),
    (("best shares", SCALE, row(0, 0), THIRDS), (row(0, 0, 0), row(0, 0))),
    (("outlasts", SCALE, row(1, 0), 1), (row(1, 0, 0),)), (("outlasts", SCALE, row(1, 0), 0), ()),
    (("outlasts", SCALE, row(0, 0), 4), (row(0, 0, 0),)), (("outlasts", SCALE, row(0, 0), -1), (row(0, 0, 0),)),
    (("does not outlast", SCALE, row(1, 0), 1), ((0, 1), (row(1, -1), ()))), (("does not outlast", TWICE, row(1, 0), 1), ((), (row(1, -1), ()))),
    (("does not outlast", TWICE, row(1, 0), 1), ((0,), (row(1, -1), ()))), (("does not outlast", SCALE, row(1, 0), 4), ((0, 1), (row(1, -1), ()))),
    (("does not outlast", SCALE, row(1, 0), 2), ((1, 0), (row(1, -1), ()))), (("does not outlast", SCALE, row(1, 0), 2), ((-3, -2), (row(1, -1), ()))),
    (("alike", 3, WORDS, (0,), (1, 2), -1), (0,)), (("alike", 3, WORDS, (0,), (1, 2), 0), (0,)), (("alike", 3, WORDS, (0,), (1, 2), 1), (-1,)),
    (("alike", 3, WORDS * 3, (0,), (1, 2), 1), (0, 2, 1)), (("alike", 3, WORDS, (0,), (2, 1), 1), (0,)), (("alike", 7, WORDS, (0,), (1, 2), 1), (0,)),
    (("alike", 3, (((0,), 1), ((0,), -1)), (0,), (), 1), (0,)), (("alike", 3, WORDS * 7, (0,), (1, 2), 1), (0,)),
    (("apart", 3, WORDS, (0,), (1,)), (HALF[0], HALF[3])), (("apart", 3, WORDS, (0,), (1,)), (HALF[0], (1, -1, 1))),
    (("apart", 3, WORDS, (0,), (1,)), HALF[:3]), (("apart", 1, (((0,), 1), ((0,), -1)), (), (0,)), ((1,), (-1,))),
    (("empty piece", 2, (((0,), 1), ((0, 1), 1), ((1,), -1))), (0, 2)), (("empty piece", 2, WORDS), ()),
    (("piece", HALF[:3]), WORDS), (("piece", HALF * 2), WORDS), (("piece", HALF), ()), (("piece", ()), ()),
    (("piece", ((1,),)), (((0,), 1),) * 7), (("no piece", HALF), (0, 1, 2)), (("no piece", HALF[:3]), (0, 1)), (("no piece", HALF[:3]), (2, 1, 0)),
    (("no piece", HALF[:3]), (-3, -2, -1)), (("no piece", HALF[:3]), (0, 1, 2, 2)), (("no piece", HALF[:2]), (0,)), (("no piece", HALF[:3]), ()),
    (("balanced", HALF, 3), ()), (("balanced", HALF, 0), ()), (("balanced", HALF, 7), ()), (("balanced", tuple(own_runs(2)), 7), ()),
    (("not balanced", HALF, 2), (0, 1, 2)), (("not balanced", HALF, 3), ()), (("not balanced", HALF, 3), (0, 1)),
    (("not balanced", HALF, 7), (0, 1, 2)), (("not balanced", HALF, 3), (0, 2, 1)),
    (("change", SCALE, ("strike", 0), SCALE), ()), (("change", SCALE, ("strike", 3), SCALE), ()), (("change", SCALE, None, None), ()),
    (("change", SCALE, ("strike", 0), list(trial([(0, 1), (1, 1)]))), ()), (("no change", SCALE, ("strike", 0)), ()),
    (("no change", None, ("strike", 3)), ()), (("no change", SCALE, ("strike", 3)), None),
    (("read", TEXT, BEDS), ()), (("read", TEXT[:-1], BENCH), ()), (("read", TEXT, list(BENCH)), ()), (("not read", TEXT, 6), ()),
    (("not read", TEXT, None), ()), (("not read", "unknowns\n", 1), ()), (("not read", b"", 0), ()), (("not read", "", None), ()),
)


def places(value, path=()):
    """The paths to all parts of a value, itself among them."""
    yield path
    if value.__class__ is tuple:
        for at, part in enumerate(value):
            yield from places(part, path + (at,))


def part_at(value, path):
    for at in path:
        value = value[at]
    return value


def put_at(value, path, part):
    if not path:
        return part
    at = path[0]
    return value[:at] + (put_at(value[at], path[1:], part),) + value[at + 1:]


def is_pair(value):
    return value.__class__ is tuple and len(value) == 2 and all(part.__class__ is int for part in value)


def misforms(part):
    """What is of another form than a part: never right in its place."""
    if part.__class__ is tuple:
        yield list(part)
        yield dict(enumerate(part))
    if part.__class__ is int and part in (0, 1):
        yield bool(part)
    if part.__class__ is int:
        yield str(part)
        yield (part,)
    if part.__class__ is str:
        yield part.encode("ascii")
        yield (part,)
    if is_pair(part) and part[1] > 0:
        yield (2 * part[0], 2 * part[1])
        yield (-part[0], -part[1])


def changes(rng, part):
    """What may be right or wrong in the place of a part."""
    yield rng.choice(STRANGE)
    if part.__class__ is str:
        yield from (part + " ", part[1:], part.upper(), part + part)
    if part.__class__ is int:
        yield from (part + 1, part - 1, -part, part - 10, 10 ** 399)
    if part.__class__ is tuple:
        yield from (part[1:], part[:-1], part + part[-1:], part[::-1], part + (None,), part + ((),), ())
        if part:
            at = rng.randrange(len(part))
            yield part[:at] + part[at:at + 1] + part[at:]


class Accepts(unittest.TestCase):

    def check(self, claim, paper):
        wanted = own_accepts(claim, paper)
        self.assertIs(accepts(claim, paper), wanted, (claim, paper))
        return wanted

    def test_right_ones(self):
        for claim, paper in RIGHT:
            self.assertTrue(self.check(claim, paper), (claim, paper))
            self.assertIs(accepts(paper=paper, claim=claim), True)
        self.assertEqual({claim[0] for claim, _ in RIGHT}, set(OWN_CHECKS))

    def test_wrong_ones(self):
        for claim, paper in WRONG:
            self.assertIs(accepts(claim, paper), False, (claim, paper))
            self.assertIs(own_accepts(claim, paper), False, (claim, paper))

    def test_other_claims_and_papers_of_the_told_forms(self):
        met = {(kind, right): 0 for kind in OWN_CHECKS for right in (True, False)}
        for maker in MAKERS:
            rng = random.Random(1)
            for _ in range(80):
                for claim, paper in maker(rng):
                    met[claim[0], self.check(claim, paper)] += 1
        self.assertGreater(min(met.values()), 30)

    def test_of_another_form_at_each_place(self):
        for claim, paper in RIGHT:
            whole = (claim, paper)
            for path in list(places(whole))[1:]:
                # What stands for a deed that does not fit may be anything.
                if claim[0] == "no change" and path[:2] == (0, 2):
                    continue
                for part in misforms(part_at(whole, path)):
                    self.assertIs(accepts(*put_at(whole, path, part)), False, (whole, path, part))

    def test_changed_at_each_place(self):
        rng = random.Random(2)
        met = {True: 0, False: 0}
        for claim, paper in RIGHT:
            whole = (claim, paper)
            for path in list(places(whole))[1:]:
                for part in changes(rng, part_at(whole, path)):
                    met[self.check(*put_at(whole, path, part))] += 1
        self.assertGreater(min(met.values()), 20)

    def test_an_element_more_or_less(self):
        for claim, paper in RIGHT:
            for made in (claim[:-1], claim + (), claim + ((),), claim + (None,), claim[1:], (claim,), claim[:1] + claim, claim[0]):
                self.assertIs(accepts(made, paper), made == claim, (made, paper))

    def test_words_of_other_claims(self):
        for claim, paper in RIGHT:
            for word in list(OWN_CHECKS) + ["", "Told", "told ", "is told", claim[0].upper(), claim[0][:-1]]:
                self.check((word,) + claim[1:], paper)
        self.assertIs(accepts(("is told",) + RIGHT[0][0][1:], RIGHT[0][1]), False)

    def test_papers_of_other_claims(self):
        for claim, _ in RIGHT:
            for _, paper in RIGHT:
                self.check(claim, paper)

    def test_only_nothing_where_nothing_is_told(self):
        for claim, paper in RIGHT:
            if paper == () and claim[0] not in ("nowhere below", "at least as good", "alike", "piece"):
                for value in STRANGE + ("()", [()], ((),)):
                    self.assertIs(accepts(claim, value), repr(value) == "()", (claim, value))

    def test_values_of_any_kind_for_both(self):
        for claim in STRANGE + tuple(claim for claim, _ in RIGHT):
            for paper in STRANGE + (nested(40),):
                self.assertIs(accepts(claim, paper), own_accepts(claim, paper))

    def test_values_of_any_kind_for_each_element(self):
        for claim, paper in RIGHT:
            for at in range(len(claim)):
                for value in STRANGE:
                    self.check(claim[:at] + (value,) + claim[at + 1:], paper)

    def test_nothing_is_changed(self):
        whole = ([["told"], {"a": [1]}], [[0, 1]])
        ahead = repr(whole)
        self.assertIs(accepts(*whole), False)
        self.assertIs(accepts(("told", whole[0], whole[1]), whole[1]), False)
        self.assertEqual(repr(whole), ahead)


if __name__ == "__main__":
    unittest.main()
