"""Runs of like rows, like rows alone, rows put in: points 85 to 87 of the document."""

import random
import unittest
from fractions import Fraction
from math import comb

from aheadsums.errors import (InvalidColumns, InvalidForm, InvalidLots, InvalidPosition, InvalidRow, InvalidRuns,
                              InvalidTable, InvalidTally, UnlikeColumns)
from aheadsums.forms import Form, form_plus, form_times, form_worths
from aheadsums.ratios import Ratio
from aheadsums.runs import Runs, first_unlike, laid_out, put_changes, run_result, run_worth
from aheadsums.tables import Table, with_row
from aheadsums.tallies import Tally, tally_worth
from tests.helping import (Case, LikeAll, form_at_rows, fractions, no_columns, no_counts, no_forms, no_numbers, no_runs,
                           no_tables, no_tallies, odd_values, rows_of, some_form, some_runs, some_table, some_tally,
                           some_term, worth_at_rows)

PAIRS = Tally(1, [(((1,), (1,)), 1)])
SO_FAR = Form(1, [((((1,),), (0,), ()), 1)])
LONG = Runs(1, [([2], 10 ** 20), ([Ratio(1, 2)], 2)])
ROWS = Table(1, [[2], [3]])


def rows_by_rule(runs):
    """The rows one by one, as lists of Fractions."""
    return [fractions(row) for row, many in runs.lots() for _ in range(many)]


class MadeTest(Case):
    def test_lots_as_they_were_passed(self):
        lots = [([2, Ratio(2, 4)], 3), ((0, -1), 0), ([2, Ratio(1, 2)], 10 ** 30)]
        runs = self.leaves(Runs, 2, lots)
        self.same(runs.columns, 2)
        self.same(runs.lots(), [([Ratio(2), Ratio(1, 2)], 3), ([Ratio(0), Ratio(-1)], 0),
                                ([Ratio(2), Ratio(1, 2)], 10 ** 30)])
        self.same(runs.many(), 10 ** 30 + 3)
        self.assertEqual(Runs(lots=tuple(lots), columns=2), runs)
        self.same([Runs(0, []).lots(), Runs(0, []).many(), Runs(3, []).columns], [[], 0, 3])
        self.same([Runs(0, [([], 7), ((), 1)]).lots(), Runs(0, [([], 7)]).many()], [[([], 7), ([], 1)], 7])

    def test_at_most_12_lots(self):
        self.same(Runs(1, [([1], 10 ** 30)] * 12).many(), 12 * 10 ** 30)
        for many in (13, 14, 200):
            lots = [([1], 0)] * many
            self.refuses(InvalidLots, lots, Runs, 1, lots)

    def test_how_often(self):
        self.same(Runs(1, [([1], 10 ** 30)]).many(), 10 ** 30)
        for value in no_counts() + [10 ** 30 + 1, 10 ** 31 - 1]:
            self.refuses(InvalidLots, [([1], 1), ([1], value)], Runs, 1, [([1], 1), ([1], value)])

    def test_wrong_lots(self):
        parts = odd_values() + [0, Ratio(1), (), ([1],), ([1], 1, 1), [[1], 1], (1, [1]), (1, 1), ([], 1), ([1, 2], 1),
                                ([[1]], 1), (Table(1, [[1]]), 1)]
        parts += [([value], 1) for value in no_numbers()]
        for part in parts:
            for lots in ([part], [([1], 1), part]):
                self.refuses(InvalidLots, lots, Runs, 1, lots)

    def test_what_is_told_is_new(self):
        self.is_new(LONG.lots)
        lots = [([1], 2)]
        runs = Runs(1, lots)
        lots[0][0][0] = 5
        lots.pop()
        self.same(runs.lots(), [([Ratio(1)], 2)])
        with self.assertRaises(AttributeError):
            runs.columns = 2

    def test_equal(self):
        self.assertIs(LONG == Runs(1, (((Ratio(2),), 10 ** 20), ((Ratio(2, 4),), 2))), True)
        for other in (Runs(1, [([2], 10 ** 20)]), Runs(1, [([2], 10 ** 20), ([Ratio(1, 2)], 3)]), Runs(1, []),
                      Runs(1, [([2], 10 ** 20), ([Ratio(1, 2)], 2), ([0], 0)]),
                      Runs(1, [([2], 10 ** 20), ([Ratio(1, 2)], 1), ([Ratio(1, 2)], 1)]),
                      Runs(1, [([Ratio(1, 2)], 2), ([2], 10 ** 20)])):
            self.assertIs(LONG == other, False)
            self.assertIs(LONG != other, True)
        for columns in range(4):
            for others in range(4):
                self.assertIs(Runs(columns, []) == Runs(others, []), columns == others)
        for value in no_runs():
            self.assertIs(LONG == value, False)
            if not isinstance(value, LikeAll) and type(value).__name__ != "Unlikeable":
                self.assertIs(value == LONG, False)

    def test_errors(self):
        self.refuses_each(Runs, {"columns": 1, "lots": [([1], 1)]},
                          {"columns": (InvalidColumns, no_columns()),
                           "lots": (InvalidLots, odd_values() + [0, Ratio(1), [None], {0: ([1], 1)}, ROWS])})


class WorthTest(Case):
    def test_laid_out_row_by_row(self):
        chance = random.Random(141)
        for turn in range(200):
            tally, runs = some_tally(chance, turn % 4, 4), some_runs(chance, turn % 4)
            found = run_worth(tally, runs)
            self.worth(found, worth_at_rows(tally, rows_by_rule(runs)))
            self.assertEqual(found, tally_worth(tally, laid_out(runs)))
            self.assertEqual(run_worth(runs=runs, tally=tally), found)

    def test_words_over_like_rows(self):
        for many in (0, 1, 2, 3, 7, 8, 9, 10 ** 30):
            for letters in range(9):
                word = ((1, 2),) * letters
                self.worth(run_worth(Tally(2, [(word, Ratio(2, 3))]), Runs(2, [([3, Ratio(1, 2)], many)])),
                           Fraction(2, 3) * comb(many, letters) * Fraction(3, 4) ** letters)

    def test_far_more_rows_than_can_be_laid_out(self):
        # Eight letters over twelve lots of 10 ** 30 rows of 1: all ways to choose eight rows.
        runs = Runs(1, [([1], 10 ** 30)] * 12)
        self.worth(run_worth(Tally(1, [(((1,),) * 8, 1)]), runs), comb(12 * 10 ** 30, 8))
        self.worth(run_worth(PAIRS, LONG), 4 * comb(10 ** 20, 2) + 2 * 10 ** 20 + Fraction(1, 4))

    def test_lots_of_no_rows_change_nothing(self):
        chance = random.Random(142)
        for turn in range(40):
            tally, runs = some_tally(chance, 1, 4), some_runs(chance, 1)
            more = Runs(1, [lot for one in runs.lots() for lot in (([7], 0), one)] + [([9], 0)])
            self.assertEqual(run_worth(tally, more), run_worth(tally, runs))
        self.worth(run_worth(Tally(1, [((), 3)]), Runs(1, [])), 3)

    def test_errors(self):
        self.refuses_each(run_worth, {"tally": PAIRS, "runs": LONG},
                          {"tally": (InvalidTally, no_tallies()), "runs": (InvalidRuns, no_runs())})
        for columns in range(4):
            for others in range(4):
                if columns != others:
                    self.raised(UnlikeColumns, run_worth, Tally(columns, []), Runs(others, []))


class ResultTest(Case):
    def test_laid_out_row_by_row(self):
        chance = random.Random(143)
        for turn in range(120):
            form, runs = some_form(chance, turn % 4, 4), some_runs(chance, turn % 4)
            rows = rows_by_rule(runs)
            for position in range(len(rows)):
                found = run_result(form, runs, position)
                self.worth(found, form_at_rows(form, rows, position))
                self.assertEqual(run_result(position=position, form=form, runs=runs), found)
            self.refuses(InvalidPosition, len(rows), run_result, form, runs, len(rows))

    def test_far_more_rows(self):
        form = Form(1, [((((0,), (1,)), (1,), ((0,),)), 1)])
        many = 10 ** 30
        runs = Runs(1, [([1], many), ([5], 0), ([2], many)])
        self.worth(run_result(form, runs, many - 1), comb(many - 1, 2) * many)
        self.worth(run_result(form, runs, many), 2 * comb(many, 2) * (many - 1))
        last = comb(many, 2) + many * (many - 1) * 2 + 2 * comb(many - 1, 2)
        self.worth(run_result(form, runs, 2 * many - 2), 2 * (last - many * 2 - 2 * (many - 2)))
        self.worth(run_result(form, runs, 2 * many - 1), 0)
        self.worth(run_result(SO_FAR, LONG, 10 ** 20 + 1), 2 * 10 ** 20 + Fraction(1, 2))

    def test_errors(self):
        positions = no_counts() + [10 ** 20 + 2, 10 ** 20 + 3, 10 ** 30]
        self.refuses_each(run_result, {"form": SO_FAR, "runs": LONG, "position": 0},
                          {"form": (InvalidForm, no_forms()), "runs": (InvalidRuns, no_runs()),
                           "position": (InvalidPosition, positions)})
        for runs in (Runs(1, []), Runs(1, [([1], 0)])):
            self.refuses(InvalidPosition, 0, run_result, SO_FAR, runs, 0)
        self.raised(UnlikeColumns, run_result, SO_FAR, Runs(2, [([1, 1], 1)]), 0)
        self.refuses(InvalidPosition, 1, run_result, SO_FAR, Runs(2, [([1, 1], 1)]), 1)


class LaidOutTest(Case):
    def test_the_rows(self):
        chance = random.Random(144)
        for turn in range(60):
            runs = some_runs(chance, turn % 4, 8)
            found = laid_out(runs)
            self.assertIsInstance(found, Table)
            self.same(found.columns, runs.columns)
            self.assertEqual(rows_of(found), rows_by_rule(runs))
            self.assertEqual(laid_out(runs=runs), found)

    def test_at_most_40_rows(self):
        self.same(laid_out(Runs(1, [([1], 15), ([2], 25)])).height, 40)
        for lots in ([([1], 15), ([2], 26)], [([1], 10 ** 30)], [([1], 4)] * 11):
            self.too_many("rows", 40, laid_out, Runs(1, lots))

    def test_errors(self):
        self.refuses_each(laid_out, {"runs": Runs(1, [([2], 1)])}, {"runs": (InvalidRuns, no_runs())})


class FirstUnlikeTest(Case):
    def by_rule(self, form, other, row):
        """The least number to 9 of like rows on which some result is unlike."""
        for many in range(1, 9):
            rows = [fractions(row)] * many
            if any(form_at_rows(form, rows, at) != form_at_rows(other, rows, at) for at in range(many)):
                return many
        return None

    def test_against_like_rows(self):
        chance = random.Random(145)
        found = []
        for turn in range(250):
            columns = turn % 4
            form = some_form(chance, columns, 3)
            other = form_plus(form, some_form(chance, columns, 4)) if turn % 2 else some_form(chance, columns, 3)
            if turn % 3 == 0:
                # The same, at like rows, with the letters in another order.
                other = Form(columns, [((left[::-1], own, right[::-1]), factor)
                                       for (left, own, right), factor in form.parts()])
            row = [chance.choice([0, 1, -1, 2, Ratio(1, 2)]) for _ in range(columns)]
            told = first_unlike(form, other, row)
            self.same(told, self.by_rule(form, other, row))
            self.same(first_unlike(other, form, tuple(row)), told)
            self.same(first_unlike(row=row, other=other, form=form), told)
            found.append(told)
        self.assertTrue({None, 1, 2, 3} <= set(found))

    def test_letters_that_come_to_the_same(self):
        form = Form(1, [((((1,),), (2,), ()), 1)])
        other = Form(1, [((((2,),), (1,), ()), 1)])
        self.same([first_unlike(form, other, [5]), first_unlike(form, form_times(other, 2), [5])], [None, 2])
        third = Form(1, [((((0,),), (0,), ()), 8)])
        self.same([first_unlike(form, third, [2]), first_unlike(form, third, [3])], [None, 2])

    def test_the_greatest_lengths(self):
        term = (((1,),) * 4, (1,), ((1,),) * 3)
        form = Form(1, [(term, 1)])
        self.same([first_unlike(form, Form(1, []), [number]) for number in (0, 1, Ratio(-1, 9))], [None, 8, 8])
        self.same(first_unlike(Form(1, [(term, 1)]), Form(1, [((((1,),) * 3, (1,), ((1,),) * 4), 1)]), [1]), 8)

    def test_many_terms(self):
        chance = random.Random(146)
        forms = [Form(2, [(some_term(chance, 2, chance.randrange(1, 9), 8), 1) for _ in range(400)]) for _ in range(2)]
        self.same([first_unlike(*forms, [0, 0]) in (None, 1, 2, 3), first_unlike(*forms, [2, 3])], [True, 1])

    def test_errors(self):
        rows = odd_values() + [0, Ratio(1), [], [1, 2], [[1]]] + [[value] for value in no_numbers()]
        self.refuses_each(first_unlike, {"form": SO_FAR, "other": SO_FAR, "row": [1]},
                          {"form": (InvalidForm, no_forms()), "other": (InvalidForm, no_forms()),
                           "row": (InvalidRow, rows)})
        self.raised(UnlikeColumns, first_unlike, SO_FAR, Form(2, []), [1])
        self.refuses(InvalidRow, [1, 1], first_unlike, SO_FAR, Form(2, []), [1, 1])


class PutChangesTest(Case):
    def test_by_both_tables(self):
        chance = random.Random(147)
        for turn in range(120):
            form, table = some_form(chance, turn % 4, 4), some_table(chance, turn % 4, turn % 5)
            row = [chance.choice([0, 1, -2, Ratio(1, 3)]) for _ in range(table.columns)]
            for position in range(table.height + 1):
                rows = rows_of(table)
                then = rows[:position] + [fractions(row)] + rows[position:]
                wanted = [form_at_rows(form, then, at + (at >= position)) - form_at_rows(form, rows, at)
                          for at in range(table.height)]
                found = put_changes(form, table, position, row)
                self.worths(found, wanted)
                self.assertEqual(put_changes(row=tuple(row), position=position, table=table, form=form), found)

    def test_ahead_by_right_words_behind_by_left_words(self):
        right = Form(1, [(((), (1,), ((1,),)), 1)])
        table = Table(1, [[1], [2], [3]])
        self.worths(put_changes(SO_FAR, table, 1, [7]), [0, 7, 7])
        self.worths(put_changes(right, table, 1, [7]), [7, 0, 0])
        self.same(put_changes(SO_FAR, Table(1, []), 0, [7]), [])

    def test_at_most_40_rows(self):
        self.same(len(put_changes(SO_FAR, Table(1, [[1]] * 39), 39, [1])), 39)
        self.too_many("rows", 40, put_changes, SO_FAR, Table(1, [[1]] * 40), 40, [1])

    def test_what_is_passed_stays(self):
        table, row = Table(1, [[1], [2]]), [7]
        self.is_new(put_changes, SO_FAR, table, 1, row)
        self.same([row, table == Table(1, [[1], [2]])], [[7], True])

    def test_as_the_row_is_put(self):
        table = Table(1, [[1], [2], [4]])
        ahead, then = form_worths(SO_FAR, table), form_worths(SO_FAR, with_row(table, 2, [5]))
        del then[2]
        self.same(put_changes(SO_FAR, table, 2, [5]), [one - other for one, other in zip(then, ahead)])

    def test_errors(self):
        rows = odd_values() + [0, Ratio(1), [], [1, 2], [[1]]] + [[value] for value in no_numbers()]
        self.refuses_each(put_changes, {"form": SO_FAR, "table": ROWS, "position": 2, "row": [1]},
                          {"form": (InvalidForm, no_forms()), "table": (InvalidTable, no_tables() + [SO_FAR]),
                           "position": (InvalidPosition, no_counts() + [3, 4, 10 ** 30]), "row": (InvalidRow, rows)})
        # The row is for the table's columns; that these are others than the form's comes behind it.
        self.refuses(InvalidRow, [1], put_changes, SO_FAR, Table(2, []), 0, [1])
        self.raised(UnlikeColumns, put_changes, SO_FAR, Table(2, []), 0, [1, 1])
        self.raised(UnlikeColumns, put_changes, SO_FAR, Table(2, [[1, 1]] * 40), 0, [1, 1])


if __name__ == "__main__":
    unittest.main()
