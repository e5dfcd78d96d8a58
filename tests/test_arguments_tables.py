"""What is raised for wrong arguments, in which order; how arguments are passed and kept: tables, squares, two, kinds."""

import unittest

from tests.calls import QUESTION_FAULTS, TRIAL_FAULTS, WRONG_QUESTIONS, CallChecks, given, indexed
from tests.support import STRANGE, Odd, row, trial
from tests.sums import of_kinds
from trialground import kinds, squares, tables, two
from trialground.errors import InvalidNumber, InvalidQuestion, InvalidRows, InvalidTable, Unfit

PLAIN = trial([(1, 0), (0, 1), (1, 1)])
BLOCKED = trial([(1, 0), (0, 1), (1, 1)], [1, 2, "1/3"], (0, 0, 2))

WRONG_TABLES = (
    (), (row(1, 2),), (row(1, 2), row(3, 1)), (row(1, 2), row(-2, 1)), (row(1, 2), row("1/2", 1)),
    (row(1, 2), row(2)), (row(1, 2), row(2, 1, 0)), (row(1), row(1)), (row(1, 2), ()), ((), ()), ((),),
    (row(*[1] * 6),) * 6, (row(*[0] * 6),) * 5, (row(*[0] * 5),) * 6, row(1), row(1, 2), [row(1)], (list(row(1)),),
    (([1, 1],),), ((1,),), (((2, 2),),), (((1, True),),), (((True, 1),),), (((0, 0),),), (((1, -1),),),
    ((((1, 1), 1)),), (row(1, 2), ((2, 1), 1)), (row(1, 2), ((2, 1), (2, 2))), (row(1, 2), [(2, 1), (1, 1)]),
    (row(1, 2, 3), row(2, 1, 4), row(3, 5, 1)), (row(0, 1), row(-1, 0)), (row(1, 2), row(2, 1), row(0, 0)),
)
SQUARE = ((1, 2), row(1, -1))
# What is wrong for squares with rows of two fractions, and the index that is told.
WRONG_SQUARES = (
    (None, None), (True, None), (0, None), ("", None), (b"", None), ([], None), ({}, None), (set(), None), (Odd(), None),
    ([SQUARE], None), ((SQUARE,) * 6, None), ((None,) * 6, None), (((),) * 1000, None), ((None,), 0), (((),), 0),
    ((Odd(),), 0), ((list(SQUARE),), 0), ((SQUARE[:1],), 0), ((SQUARE + ((),),), 0), ((SQUARE[::-1],), 0),
    ((((0, 1), row(1, 1)),), 0), ((((-1, 2), row(1, 1)),), 0), ((((2, 2), row(1, 1)),), 0), (((1, row(1, 1)),), 0),
    ((((True, 1), row(1, 1)),), 0), ((([1, 1], row(1, 1)),), 0), ((SQUARE, ((1, 1), row(1))), 1),
    ((SQUARE, ((1, 1), row(1, 1, 1))), 1), ((SQUARE, ((1, 1), list(row(1, 1)))), 1), ((SQUARE, ((1, 1), ())), 1),
    ((SQUARE, SQUARE, ((1, 1), ((1, 1), [1, 1]))), 2), ((SQUARE, SQUARE, ((1, 1), ((1, 1), (3, 6)))), 2),
    ((SQUARE, SQUARE, SQUARE, ((1, 1), ((1, 1), (1, True)))), 3), ((SQUARE,) * 4 + (((0, 1), row(1, 1)),), 4),
    ((SQUARE, None, ((0, 1), row(1, 1)), SQUARE), 1), (row(1), 0), (row(1, 1), 0), (SQUARE, 0), ((SQUARE, True), 1),
    ((((1, 1), (1, 1)),), 0), ((((0, 1), row(0, 0)), None), 0),
)
NO_INDEXES = (3, 4, -1, -3, 10 ** 399, -10 ** 399, (0,), "0", [0], (0, 1), None, True, False)
NO_NUMBERS = tuple(value for value in STRANGE if value.__class__ is not int)


class Tables(CallChecks, unittest.TestCase):

    functions = (
        (tables, "table_of", ("trial",)),
        (tables, "table_row", ("trial", "question")),
        (tables, "spread_by_table", ("trial", "question")),
    )
    rights = ({"trial": PLAIN, "question": row(1, 0)}, {"trial": BLOCKED, "question": row("1/2", "-1/2")},
              {"trial": BLOCKED, "question": row(1, 0)})
    faults = {"trial": TRIAL_FAULTS, "question": QUESTION_FAULTS}

    def test_as_many_fractions_as_unknowns(self):
        for unknowns in range(1, 6):
            made = trial([(1,) * unknowns])
            for many in range(8):
                if many != unknowns:
                    for function in (tables.table_row, tables.spread_by_table):
                        self.assertRaises(InvalidQuestion, function, made, row(*[1] * many))


class Squares(CallChecks, unittest.TestCase):

    functions = (
        (squares, "squares_or_below", ("table",)),
        (squares, "is_nowhere_below", ("table",)),
        (squares, "table_of_squares", ("many", "squares")),
        (squares, "sum_at", ("table", "row")),
    )
    rights = ({"table": (row(1, 2), row(2, 1)), "row": row(3, "-1/2"), "many": 2, "squares": (SQUARE, SQUARE)},
              {"table": (row(1, 1), row(1, 1)), "row": row(0, 0), "many": 2, "squares": ()})
    faults = {
        "table": given(InvalidTable, STRANGE, WRONG_TABLES),
        "row": given(InvalidQuestion, STRANGE, WRONG_QUESTIONS),
        "many": given(InvalidNumber, NO_NUMBERS, (0, 6, -1, -5, 10 ** 399, (2,), [2], "2", True, False)),
        "squares": indexed(InvalidRows, WRONG_SQUARES),
    }

    def test_rows_of_the_table_and_of_the_squares(self):
        for many in range(1, 6):
            table = (row(*[0] * many),) * many
            self.assertEqual(squares.squares_or_below(table), ("squares", ()))
            self.assertEqual(squares.table_of_squares(many, ()), table)
            for other in range(8):
                if other != many:
                    self.assertRaises(InvalidQuestion, squares.sum_at, table, row(*[1] * other))
                    with self.assertRaises(InvalidRows) as caught:
                        squares.table_of_squares(many, (((1, 1), row(*[1] * other)),))
                    self.assertEqual(caught.exception.index, 0)

    def test_tables_have_1_to_5_rows_of_as_many(self):
        for rows in range(8):
            for wide in range(8):
                table = (row(*[1] * wide),) * rows
                if rows == wide and 1 <= rows <= 5:
                    self.assertIs(squares.is_nowhere_below(table), True)
                else:
                    self.assertRaises(InvalidTable, squares.is_nowhere_below, table)

    def test_each_pair_beside_the_diagonal_is_looked_at(self):
        for many in range(2, 6):
            for one in range(many):
                for other in range(many):
                    if one != other:
                        lines = [[(0, 1)] * many for _ in range(many)]
                        lines[one][other] = (1, 7)
                        self.assertRaises(InvalidTable, squares.squares_or_below, tuple(map(tuple, lines)))
                        lines[other][one] = (1, 7)
                        self.assertEqual(squares.squares_or_below(tuple(map(tuple, lines)))[0], "below")


class Two(CallChecks, unittest.TestCase):

    functions = (
        (two, "is_at_least_as_good", ("one", "other")),
        (two, "compared", ("one", "other")),
        (two, "are_equally_good", ("one", "other")),
    )
    rights = ({"one": PLAIN, "other": BLOCKED}, {"one": BLOCKED, "other": PLAIN})
    faults = {"one": TRIAL_FAULTS, "other": TRIAL_FAULTS}
    lasts = tuple((name, {"one": trial([(1,) * ones]), "other": trial([(1,) * others])}, Unfit, "given", others)
                  for name in ("is_at_least_as_good", "compared", "are_equally_good")
                  for ones, others in ((1, 2), (2, 1), (5, 3), (3, 5), (4, 5)))


class Kinds(CallChecks, unittest.TestCase):

    functions = (
        (kinds, "way_between", ("trial", "kind", "other")),
        (kinds, "parts_of", ("trial",)),
        (kinds, "difference_spread", ("trial", "kind", "other")),
        (kinds, "is_even_handed", ("trial",)),
    )
    rights = ({"trial": of_kinds((0, 1, 1, 2), 3, (0, 0, 1, 1)), "kind": 0, "other": 2},
              {"trial": of_kinds((0, 1), 3, (0, 0)), "kind": 2, "other": 0})
    faults = {
        "trial": TRIAL_FAULTS + given(Unfit, (PLAIN, BLOCKED, of_kinds((0, 1), 2, ()), trial([(2, 0)], [1], (0,)))),
        "kind": given(InvalidNumber, NO_NUMBERS, NO_INDEXES),
        "other": given(InvalidNumber, NO_NUMBERS, NO_INDEXES),
    }

    def test_each_number_that_is_no_unknown(self):
        for unknowns in range(1, 6):
            made = of_kinds((0,), unknowns, (0,))
            for number in range(-6, 9):
                if not 0 <= number < unknowns:
                    for function in (kinds.way_between, kinds.difference_spread):
                        self.assertRaises(InvalidNumber, function, made, number, 0)
                        self.assertRaises(InvalidNumber, function, made, 0, number)


class IsOfKinds(CallChecks, unittest.TestCase):
    """No trial is unfit to be asked whether it is of kinds."""

    functions = ((kinds, "is_of_kinds", ("trial",)),)
    rights = ({"trial": PLAIN}, {"trial": BLOCKED}, {"trial": of_kinds((0, 1), 3, (0, 0))})
    faults = {"trial": TRIAL_FAULTS}


if __name__ == "__main__":
    unittest.main()
