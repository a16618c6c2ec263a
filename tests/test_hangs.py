"""What results hang on: points 53 to 55 of the document."""

import random
import unittest

from aheadsums.errors import InvalidColumn, InvalidForm, InvalidSide, InvalidWhere
from aheadsums.forms import Form, form_plus, form_times, form_turned
from aheadsums.hangs import change, hangs_on, is_change, is_moving, moving, stays
from aheadsums.ratios import Ratio
from aheadsums.tables import Table, with_row
from tests.helping import (Case, LikeAll, form_at, no_counts, no_forms, no_numbers, no_tables, odd_values, some_form,
                           some_table, some_term)

OWN = Form(1, [(((), (1,), ()), 1)])
BOTH = Form(1, [(((), (1,), ()), 1), ((((1,),), (0,), ()), 1)])
COUNTED = Form(1, [((((0,),), (0,), ()), 1)])
NO_PLACES = [value for value in odd_values() if not isinstance(value, str) or value != "ahead"]
NO_PLACES += ["Ahead", "ahead ", "aheads", "behin", "left", 0, 1, Ratio(1), [], ["ahead"], ("ahead",),
              ("ahead", "behind"), b"ahead", LikeAll()]
NO_SIDES = NO_PLACES + ["own"]


def rows_at(where, table, position):
    """The positions of the rows that stand there, seen from the one at the position."""
    places = {"ahead": range(position), "own": [position], "behind": range(position + 1, table.height)}
    return list(places[where])


def moves(form, side, table, row, position):
    """Whether the row changes the result when it is put there."""
    if side == "ahead":
        return form_at(form, with_row(table, 0, row), position + 1) != form_at(form, table, position)
    return form_at(form, with_row(table, table.height, row), position) != form_at(form, table, position)


def some_forms(chance, many, longest=4):
    return [some_form(chance, turn % 4, longest) for turn in range(many)]


class StaysTest(Case):
    def test_against_further_rows(self):
        chance = random.Random(53)
        for form in some_forms(chance, 120):
            for side in ("ahead", "behind"):
                its = stays(form, side)
                self.assertIs(stays(side=side, form=form), its)
                self.assertIs(its, moving(form, side) is None)
                for _ in range(4):
                    table = some_table(chance, form.columns, chance.randrange(1, 5))
                    row = some_table(chance, form.columns, 1).rows()[0]
                    for position in range(table.height):
                        if its:
                            self.assertIs(moves(form, side, table, row, position), False)

    def test_by_the_words(self):
        for left in range(4):
            for right in range(4):
                form = form_plus(OWN, Form(1, [((((0,),) * left, (3,), ((0,),) * right), 1)]))
                self.assertIs(stays(form, "ahead"), left == 0)
                self.assertIs(stays(form, "behind"), right == 0)
        for side in ("ahead", "behind"):
            self.assertIs(stays(Form(2, []), side), True)

    def test_errors(self):
        for function in (stays, moving):
            self.refuses_each(function, {"form": BOTH, "side": "ahead"},
                              {"form": (InvalidForm, no_forms()), "side": (InvalidSide, NO_SIDES)})


class MovingTest(Case):
    def check(self, form, side):
        found = moving(form, side)
        self.assertIs(type(found), tuple)
        table, row, position = found
        self.assertIsInstance(table, Table)
        self.same([type(number) for number in row], [Ratio] * form.columns)
        self.same([type(row), table.columns], [list, form.columns])
        self.assertLessEqual(table.height, 39)
        self.assertIs(moves(form, side, table, row, position), True)
        self.assertIs(is_moving(form, side, found), True)
        self.assertIs(is_moving(form, side, (table, tuple(row), position)), True)
        self.assertEqual(moving(side=side, form=form), found)

    def test_each_form_that_does_not_stay(self):
        many = 0
        for form in some_forms(random.Random(54), 200):
            for side in ("ahead", "behind"):
                if stays(form, side):
                    self.assertIsNone(moving(form, side))
                else:
                    self.check(form, side)
                    many += 1
        self.assertGreater(many, 100)

    def test_long_ones(self):
        chance = random.Random(55)
        for _ in range(10):
            form = Form(3, [(some_term(chance, 3, 8, 8), chance.randrange(1, 10 ** 6)) for _ in range(20)])
            for side in ("ahead", "behind"):
                if not stays(form, side):
                    self.check(form, side)

    def test_shorter_terms_may_hide_longer_ones(self):
        form = Form(1, [((((1,),), (0,), ()), 1), ((((0,),), (1,), ()), -1), ((((1,), (1,)), (0,), ((1,),)), 5)])
        self.check(form, "ahead")
        self.check(form, "behind")
        self.check(form_turned(form), "ahead")
        self.check(form_turned(form), "behind")

    def test_without_columns(self):
        self.check(Form(0, [((((),) * 7, (), ()), 1)]), "ahead")
        self.check(Form(0, [(((), (), ((),) * 7), 1)]), "behind")


class IsMovingTest(Case):
    def test_by_the_results(self):
        chance = random.Random(56)
        for form in some_forms(chance, 120, 3):
            for side in ("ahead", "behind"):
                table = some_table(chance, form.columns, chance.randrange(1, 5))
                row = some_table(chance, form.columns, 1).rows()[0]
                for position in range(table.height + 1):
                    wanted = position < table.height and moves(form, side, table, row, position)
                    self.assertIs(is_moving(form, side, (table, row, position)), wanted)
                    self.assertIs(is_moving(value=(table, row, position), form=form, side=side), wanted)

    def test_at_most_39_rows(self):
        for side, form in (("ahead", COUNTED), ("behind", form_turned(COUNTED))):
            self.assertIs(is_moving(form, side, (Table(1, [[0]] * 39), [0], 20)), True)
            self.assertIs(is_moving(form, side, (Table(1, [[0]] * 40), [0], 20)), False)

    def test_the_side_counts(self):
        for form, side, other in ((COUNTED, "ahead", "behind"), (form_turned(COUNTED), "behind", "ahead")):
            self.assertIs(is_moving(form, side, (Table(1, [[0]]), [0], 0)), True)
            self.assertIs(is_moving(form, other, (Table(1, [[0]]), [0], 0)), False)

    def test_of_any_value(self):
        table = Table(1, [[0], [5]])
        self.assertIs(is_moving(BOTH, "ahead", (table, [1], 1)), True)
        values = odd_values() + [0, Ratio(1), table, (), [], (table,), (table, [1]), (table, 1), [table, [1], 1],
                                 (table, [1], 1, 1), (table, 1, [1]), ([1], table, 1)]
        values += [(table, [1], value) for value in no_counts() + [2, 3, 10 ** 30]]
        values += [(value, [1], 0) for value in no_tables() + [BOTH]]
        values += [(table, value, 0) for value in odd_values() + [0, 1, Ratio(1), [], (), [1, 1], [[1]], table]]
        values += [(table, [value], 0) for value in no_numbers()]
        values += [(Table(columns, [[1] * columns] * 2), [1] * columns, 1) for columns in (0, 2, 3)]
        values += [(table, [0], 0), (Table(1, []), [1], 0)]
        for value in values:
            self.assertIs(is_moving(BOTH, "ahead", value), False)
            self.assertIs(is_moving(BOTH, "behind", value), False)

    def test_what_is_passed_stays(self):
        row = [1]
        self.leaves(is_moving, BOTH, "ahead", (Table(1, [[0]]), row, 0))
        self.same(row, [1])

    def test_errors(self):
        self.refuses_each(is_moving, {"form": BOTH, "side": "ahead", "value": None},
                          {"form": (InvalidForm, no_forms()), "side": (InvalidSide, NO_SIDES)})


class HangsOnTest(Case):
    def test_by_the_powers(self):
        for form in some_forms(random.Random(57), 120):
            for column in range(form.columns):
                terms = [term for term, _ in form.parts()]
                for where, wanted in [
                        ("ahead", any(letter[column] for left, _, _ in terms for letter in left)),
                        ("own", any(own[column] for _, own, _ in terms)),
                        ("behind", any(letter[column] for _, _, right in terms for letter in right))]:
                    self.assertIs(hangs_on(form, where, column), wanted)
                    self.assertIs(hangs_on(column=column, where=where, form=form), wanted)

    def test_what_hangs_on_no_column_never_changes(self):
        chance = random.Random(58)
        for form in some_forms(chance, 80, 3):
            for where in ("ahead", "own", "behind"):
                for column in range(form.columns):
                    if hangs_on(form, where, column):
                        continue
                    table = some_table(chance, form.columns, 4)
                    for position in range(4):
                        rows = table.rows()
                        for at in rows_at(where, table, position):
                            rows[at][column] = chance.randrange(100)
                        self.assertEqual(form_at(form, Table(form.columns, rows), position),
                                         form_at(form, table, position))

    def test_a_bare_letter_counts(self):
        self.assertIs(stays(COUNTED, "ahead"), False)
        self.assertIs(hangs_on(COUNTED, "ahead", 0), False)

    def test_errors(self):
        for columns in range(4):
            form = Form(columns, [(((), (1,) * columns, ()), 1)])
            for value in no_counts() + [columns, columns + 1, 10 ** 30]:
                for function in (hangs_on, change):
                    self.refuses(InvalidColumn, value, function, form, "own", value)
                self.refuses(InvalidColumn, value, is_change, form, "own", value, None)
        for function in (hangs_on, change):
            self.refuses_each(function, {"form": BOTH, "where": "ahead", "column": 0},
                              {"form": (InvalidForm, no_forms()), "where": (InvalidWhere, NO_PLACES),
                               "column": (InvalidColumn, no_counts() + [1])})


class ChangeTest(Case):
    def check(self, form, where, column):
        found = change(form, where, column)
        self.assertIs(type(found), tuple)
        first, second, position = found
        self.same([first.columns, second.columns, second.height], [form.columns, form.columns, first.height])
        there = rows_at(where, first, position)
        for at, (one, other) in enumerate(zip(first.rows(), second.rows())):
            for k in range(form.columns):
                if k != column or at not in there:
                    self.assertEqual(one[k], other[k])
        self.assertNotEqual(form_at(form, first, position), form_at(form, second, position))
        self.assertIs(is_change(form, where, column, found), True)
        self.assertEqual(change(column=column, form=form, where=where), found)

    def test_each_form_that_hangs_on_a_column(self):
        many = 0
        for form in some_forms(random.Random(59), 200):
            for where in ("ahead", "own", "behind"):
                for column in range(form.columns):
                    if hangs_on(form, where, column):
                        self.check(form, where, column)
                        many += 1
                    else:
                        self.assertIsNone(change(form, where, column))
        self.assertGreater(many, 150)

    def test_long_ones(self):
        chance = random.Random(60)
        for _ in range(4):
            form = Form(3, [(some_term(chance, 3, 8, 8), chance.randrange(1, 10 ** 6)) for _ in range(20)])
            for where in ("ahead", "own", "behind"):
                for column in range(3):
                    self.check(form, where, column)

    def test_terms_that_hang_on_other_columns(self):
        form = Form(2, [((((1, 0),), (0, 0), ()), 7), ((((1, 1), (0, 0)), (0, 2), ((2, 0),)), 1),
                        (((), (5, 0), ()), Ratio(1, 3))])
        for where, column in [("ahead", 0), ("ahead", 1), ("own", 0), ("own", 1), ("behind", 0)]:
            self.check(form, where, column)
        self.assertIsNone(change(form, "behind", 1))


class IsChangeTest(Case):
    def test_by_rows_and_results(self):
        chance = random.Random(61)
        for form in some_forms(chance, 160, 3):
            table = some_table(chance, form.columns, 4)
            for column in range(form.columns):
                position, where = chance.randrange(4), chance.choice(["ahead", "own", "behind"])
                rows = table.rows()
                for at in rows_at(where, table, position):
                    rows[at][column] = Ratio(chance.randrange(3))
                other = Table(form.columns, rows)
                wanted = form_at(form, table, position) != form_at(form, other, position)
                self.assertIs(is_change(form, where, column, (table, other, position)), wanted)
                self.assertIs(is_change(value=(other, table, position), form=form, where=where, column=column), wanted)

    def test_just_this_column_there(self):
        form = Form(2, [((((1, 1),), (1, 1), ((1, 1),)), 1)])
        rows = [[2, 2], [3, 3], [5, 5]]
        for where in ("ahead", "own", "behind"):
            for column in range(2):
                for at in range(3):
                    for k in range(2):
                        others = [list(row) for row in rows]
                        others[at][k] = 7
                        wanted = k == column and at == ["ahead", "own", "behind"].index(where)
                        value = (Table(2, rows), Table(2, others), 1)
                        self.assertIs(is_change(form, where, column, value), wanted)
                        self.assertIs(is_change(form, where, column, (value[1], value[0], 1)), wanted)
        self.assertIs(is_change(form, "own", 0, (Table(2, rows), Table(2, rows), 1)), False)

    def test_of_any_value(self):
        one, other = Table(1, [[1], [0]]), Table(1, [[2], [0]])
        self.assertIs(is_change(BOTH, "ahead", 0, (one, other, 1)), True)
        values = odd_values() + [0, Ratio(1), one, (), [], (one,), (one, other), (one, 1), [one, other, 1],
                                 (one, other, 1, 1), (1, one, other), (one, 1, other), ([[1], [0]], [[2], [0]], 1)]
        values += [(one, other, value) for value in no_counts() + [0, 2, 3, 10 ** 30]]
        values += [(value, other, 1) for value in no_tables() + [BOTH]] + [(one, value, 1) for value in no_tables()]
        wide, wider, none = Table(2, [[1, 0], [0, 0]]), Table(2, [[2, 0], [0, 0]]), Table(0, [[], []])
        values += [(one, Table(1, [[2], [0], [0]]), 1), (Table(1, [[1], [0], [0]]), other, 1), (one, Table(1, []), 1),
                   (one, Table(1, [[2]]), 0), (one, wider, 1), (wide, other, 1), (wide, wider, 1), (none, none, 1),
                   (one, Table(1, [[2], [1]]), 1)]
        for value in values:
            self.assertIs(is_change(BOTH, "ahead", 0, value), False)

    def test_errors(self):
        self.refuses_each(is_change, {"form": BOTH, "where": "ahead", "column": 0, "value": None},
                          {"form": (InvalidForm, no_forms()), "where": (InvalidWhere, NO_PLACES),
                           "column": (InvalidColumn, no_counts() + [1])})

    def test_nothing_hangs_on_nothing(self):
        for where in ("ahead", "own", "behind"):
            self.assertIs(is_change(form_times(BOTH, 0), where, 0, (Table(1, [[1]]), Table(1, [[2]]), 0)), False)


if __name__ == "__main__":
    unittest.main()
