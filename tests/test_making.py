"""Forms of programs, programs of forms, forms put into forms: points 41 to 43 of the document."""

import random
import unittest
from fractions import Fraction

from aheadsums.errors import InvalidColumns, InvalidForm, InvalidOthers, InvalidProgram, TooMany
from aheadsums.forms import Form, ahead_of, behind_of, form_plus, form_times, form_worths
from aheadsums.making import first_alike, form_of, form_put_into, program_of
from aheadsums.programs import Program, mirrored, put_into, results
from aheadsums.ratios import Ratio
from aheadsums.tables import Table
from tests.helping import (Case, all_tables, column_of, letters_of, no_columns, no_forms, odd_values, rows_of,
                           some_form, some_steps, some_table, some_term, worths_of)

SQUARE = Program(1, [("column", 0), ("ahead", 0), ("times", 1, 1)])
NO_PROGRAMS = odd_values() + [0, 1, Ratio(1), [], [("told", 1)], (), (1, [("told", 1)]), Table(1, []), Form(1, [])]
OWN = Form(1, [(((), (1,), ()), 1)])
RANK = Form(1, [((((0,),), (0,), ()), 1)])


def some_programs():
    """Programs without great forms, each with a table of as many columns."""
    chance = random.Random(41)
    pairs = []
    for turn in range(150):
        columns = turn % 4
        program = Program(columns, some_steps(chance, columns, 1 + turn % 7))
        pairs.append((program, some_table(chance, columns, turn % 6)))
    return pairs


def unlike_columns_table(chance, columns, height):
    """A table of numbers that no two columns but alike ones tell the same of."""
    return Table(columns, [[chance.randrange(2, 10 ** 5) for _ in range(columns)] for _ in range(height)])


def weight_of(form):
    weight = 0
    for (left, own, right), _ in form.parts():
        weight += 2 + len(left) + 1 + len(right) + sum(sum(letter) for letter in left + (own,) + right)
    return weight


def made_table(columns, others, table):
    """The table whose columns the forms tell."""
    made = [worths_of(other, table) for other in others]
    return Table(columns, [[Ratio(column[at].numerator, column[at].denominator) for column in made]
                           for at in range(table.height)])


def power_form(power, columns=1):
    """The own letter with this power in the first column."""
    return Form(columns, [(((), (power,) + (0,) * (columns - 1), ()), 1)])


def bare_form(left, right, columns=1):
    """The term of so many bare left and right letters."""
    bare = (0,) * columns
    return Form(columns, [(((bare,) * left, bare, (bare,) * right), 1)])


class FormOfTest(Case):
    def test_it_tells_the_results(self):
        for program, table in some_programs():
            found = form_of(program)
            self.assertIsInstance(found, Form)
            self.same(found.columns, program.columns)
            steps = program.steps()
            self.worths(form_worths(found, table), column_of(steps, len(steps) - 1, rows_of(table)))
            self.assertEqual(form_of(program=program), found)

    def test_each_kind_of_step(self):
        first = [("column", 1), ("told", Ratio(3, 2))]
        x = (((), (0, 1), ()), Ratio(1))
        for steps, parts in [
                ([], [(((), (0, 0), ()), Ratio(3, 2))]), ([("sum", 0, 1)], [(((), (0, 0), ()), Ratio(3, 2)), x]),
                ([("less", 0, 1)], [(((), (0, 0), ()), Ratio(-3, 2)), x]),
                ([("less", 1, 0)], [(((), (0, 0), ()), Ratio(3, 2)), (((), (0, 1), ()), Ratio(-1))]),
                ([("times", 0, 1)], [(((), (0, 1), ()), Ratio(3, 2))]),
                ([("times", 0, 0)], [(((), (0, 2), ()), Ratio(1))]),
                ([("ahead", 0)], [((((0, 1),), (0, 0), ()), Ratio(1))]),
                ([("behind", 0)], [(((), (0, 0), ((0, 1),)), Ratio(1))]), ([("sum", 0, 0), ("less", 2, 2)], []),
                ([("column", 0)], [(((), (1, 0), ()), Ratio(1))])]:
            self.same(form_of(Program(2, first + steps)).parts(), parts)
        self.same(form_of(Program(3, [("column", 2)])).parts(), [(((), (0, 0, 1), ()), Ratio(1))])
        self.same(form_of(Program(0, [("told", 0)])).parts(), [])

    def test_nested_sums(self):
        rank = Program(0, [("told", 1), ("ahead", 0), ("ahead", 1)])
        self.same(form_of(rank).parts(), [((((), ()), (), ()), Ratio(1))])
        self.same(form_of(SQUARE).parts(), [((((1,), (1,)), (0,), ()), Ratio(2)), ((((2,),), (0,), ()), Ratio(1))])

    def test_alike_exactly_if_the_forms_are_the_same(self):
        chance = random.Random(42)
        programs = [Program(1, some_steps(chance, 1, 4)) for _ in range(60)]
        table = unlike_columns_table(chance, 1, 6)
        for program in programs:
            for other in programs:
                self.assertIs(form_of(program) == form_of(other), results(program, table) == results(other, table))

    def test_turned_and_mirrored(self):
        for program, table in some_programs():
            turned_form = form_of(mirrored(program))
            self.worths(form_worths(turned_form, Table(table.columns, table.rows()[::-1])),
                        column_of(program.steps(), len(program.steps()) - 1, rows_of(table))[::-1])

    def test_too_many(self):
        deep = [("told", 1)] + [("ahead", at) for at in range(7)]
        self.same(form_of(Program(1, deep)).length, 8)
        self.too_many("letters", 8, form_of, Program(1, deep + [("ahead", 7)]))
        self.too_many("letters", 8, form_of, Program(1, deep + [("behind", 7)]))
        high = [("column", 0), ("times", 0, 0), ("times", 1, 1), ("times", 2, 2)]
        self.same(form_of(Program(1, high)).parts(), [(((), (8,), ()), Ratio(1))])
        self.too_many("power", 8, form_of, Program(1, high + [("times", 3, 0)]))
        self.too_many("lacings", 4000, form_of, Program(1, deep + [("times", 7, 7)]))

    def test_too_many_terms(self):
        # The product of eight sums of three columns and 1 has 165 terms.
        steps = [("column", 0), ("column", 1), ("column", 2), ("told", 1), ("sum", 0, 1), ("sum", 4, 2), ("sum", 5, 3)]
        steps += [("times", 6 + at, 6) for at in range(7)]
        self.same(len(form_of(Program(3, steps)).parts()), 165)
        last = len(steps) - 1
        three = [("ahead", last), ("behind", last), ("sum", last, last + 1)]
        self.same(len(form_of(Program(3, steps + three)).parts()), 330)
        for word in ("sum", "less"):
            passed = Program(3, steps + three + [(word, last + 3, last + 2)])
            self.too_many("terms", 400, form_of, passed)
            self.too_many("terms", 400, first_alike, passed)

    def test_each_step_counts(self):
        beyond = [("told", 1)] + [("ahead", at) for at in range(8)]
        for steps in (beyond + [("column", 0)], beyond + [("told", 0)], beyond + [("told", 0), ("times", 8, 9)],
                      beyond + [("less", 8, 8)]):
            self.too_many("letters", 8, form_of, Program(1, steps))
            self.too_many("letters", 8, first_alike, Program(1, steps))

    def test_the_first_one_is_told(self):
        high = [("column", 0), ("times", 0, 0), ("times", 1, 1), ("times", 2, 2), ("times", 3, 3)]
        deep = [("told", 1)] + [("ahead", 5 + at) for at in range(8)]
        self.too_many("power", 8, form_of, Program(1, high + deep))
        deep = [("told", 1)] + [("ahead", at) for at in range(8)]
        high = [("column", 0), ("times", 9, 9), ("times", 10, 10), ("times", 11, 11), ("times", 12, 12)]
        self.too_many("letters", 8, form_of, Program(1, deep + high))

    def test_200_steps(self):
        steps = [("column", 0)] + [("sum", at, 0) for at in range(199)]
        self.same(form_of(Program(1, steps)).parts(), [(((), (1,), ()), Ratio(200))])

    def test_errors(self):
        self.refuses_each(form_of, {"program": SQUARE}, {"program": (InvalidProgram, NO_PROGRAMS)})


class FirstAlikeTest(Case):
    def test_against_columns(self):
        chance = random.Random(44)
        for turn in range(80):
            columns = turn % 4
            program = Program(columns, some_steps(chance, columns, 1 + turn % 12))
            steps, table = program.steps(), unlike_columns_table(chance, columns, 6)
            try:
                found = first_alike(program)
            except TooMany:
                continue
            made = [column_of(steps, at, rows_of(table)) for at in range(len(steps))]
            self.same(found, [made.index(column) for column in made])
            self.same(first_alike(program=program), found)

    def test_alike_by_unlike_steps(self):
        steps = [("column", 0), ("told", 2), ("times", 0, 1), ("sum", 0, 0), ("ahead", 2), ("ahead", 0), ("sum", 5, 5),
                 ("less", 0, 0), ("told", 0), ("told", Ratio(4, 2)), ("column", 0)]
        self.same(first_alike(Program(1, steps)), [0, 1, 2, 2, 4, 5, 4, 7, 7, 1, 0])

    def test_ahead_and_behind(self):
        # The square of the sum ahead is the sum ahead of the squares, and twice that of the products with sums ahead.
        steps = [("column", 0), ("ahead", 0), ("behind", 0), ("sum", 1, 2), ("sum", 2, 1), ("times", 1, 1),
                 ("times", 0, 0), ("ahead", 6), ("times", 0, 1), ("ahead", 8), ("sum", 9, 9), ("sum", 10, 7)]
        self.same(first_alike(Program(1, steps)), [0, 1, 2, 3, 3, 5, 6, 7, 8, 9, 10, 5])

    def test_200_steps(self):
        steps = [("column", 0)] + [("sum", at, 0) for at in range(99)] + [("less", 99 + at, 0) for at in range(100)]
        self.same(first_alike(Program(1, steps)), list(range(100)) + list(range(98, -1, -1)) + [199])

    def test_what_is_told_is_new(self):
        self.is_new(first_alike, SQUARE)

    def test_errors(self):
        self.refuses_each(first_alike, {"program": SQUARE}, {"program": (InvalidProgram, NO_PROGRAMS)})


class ProgramOfTest(Case):
    def check(self, form, table):
        found = program_of(form)
        self.assertIsInstance(found, Program)
        self.same(found.columns, form.columns)
        self.assertEqual(form_of(found), form)
        self.worths(results(found, table), worths_of(form, table))
        self.assertEqual(program_of(form=form), found)

    def test_small_forms(self):
        chance = random.Random(43)
        for turn in range(150):
            form = some_form(chance, turn % 4, 4)
            if weight_of(form) <= 120:
                self.check(form, some_table(chance, turn % 4, turn % 6))

    def test_nothing_and_single_letters(self):
        table = Table(3, [[2, 3, 5], [7, 11, 13]])
        for form in (Form(3, []), Form(3, [(((), (0, 0, 0), ()), Ratio(2, 3))]), Form(3, [(((), (0, 8, 1), ()), -1)]),
                     bare_form(7, 0, 3), bare_form(0, 7, 3), bare_form(3, 4, 3)):
            self.check(form, table)
        self.check(Form(0, []), Table(0, [[]]))

    def test_great_ones(self):
        chance = random.Random(45)
        for turn in range(60):
            columns = turn % 4
            form = Form(columns, [])
            for _ in range(40):
                longer = form_plus(form, Form(columns, [(some_term(chance, columns, chance.randrange(1, 9), turn % 9),
                                                         Ratio(chance.randrange(1, 10 ** 6), 999983))]))
                if weight_of(longer) <= 120:
                    form = longer
            self.check(form, some_table(chance, columns, 4))

    def test_weight_120(self):
        parts = [(((), (power,), ()), 1) for power in range(9)]
        parts += [((((2,),) * 3, (3,), ((2,),) * 4), 1), ((((7,), (8,)), (2,), ()), 1)]
        kept, passed = [Form(1, parts + [((((0,),), (power,), ()), 1)]) for power in (4, 5)]
        self.assertEqual([weight_of(kept), weight_of(passed)], [120, 121])
        self.check(kept, Table(1, [[1], [2], [-1]]))
        self.too_many("weight", 120, program_of, passed)
        self.too_many("weight", 120, program_of, Form(3, [(((), letter, ()), 1) for letter in letters_of(3, range(7))]))

    def test_the_weight_counts_each_letter(self):
        for left, right in ((7, 0), (0, 7), (3, 4)):
            high = Form(3, [((((8, 0, 3),) * left, (8, 8, 0), ((8, 0, 3),) * right), 1)])
            self.assertEqual(weight_of(high), 103)
            self.check(high, Table(3, [[1, 2, 3]] * 2))
            more = form_plus(high, Form(3, [(((), (5, 5, 4), ()), 1)]))
            self.assertEqual(weight_of(more), 120)
            self.check(more, Table(3, [[1, 2, 3]] * 2))
            self.too_many("weight", 120, program_of, form_plus(high, Form(3, [(((), (5, 5, 5), ()), 1)])))

    def test_errors(self):
        self.refuses_each(program_of, {"form": OWN}, {"form": (InvalidForm, no_forms())})


class PutIntoTest(Case):
    def test_it_tells_of_the_table_of_the_others(self):
        chance = random.Random(46)
        for turn in range(120):
            own_columns, columns = turn % 4, turn // 4 % 4
            form = some_form(chance, own_columns, 2)
            others = [some_form(chance, columns, 2) for _ in range(own_columns)]
            try:
                found = form_put_into(form, columns, others)
            except TooMany:
                continue
            table = some_table(chance, columns, turn % 5)
            self.same(found.columns, columns)
            self.worths(form_worths(found, table), worths_of(form, made_table(own_columns, others, table)))
            self.assertEqual(form_put_into(others=tuple(others), columns=columns, form=form), found)

    def test_as_programs_are_put_into_one_another(self):
        chance = random.Random(47)
        for turn in range(60):
            program = Program(2, some_steps(chance, 2, 4))
            others = [Program(turn % 4, some_steps(chance, turn % 4, 3)) for _ in range(2)]
            try:
                found = form_put_into(form_of(program), turn % 4, [form_of(other) for other in others])
            except TooMany:
                continue
            self.assertEqual(found, form_of(put_into(program, turn % 4, others)))

    def test_letters_left_words_and_right_words(self):
        other = Form(1, [(((), (1,), ()), 2), (((), (0,), ()), 1)])
        self.assertEqual(form_put_into(OWN, 1, [other]), other)
        self.assertEqual(form_put_into(Form(1, [(((), (2,), ()), 3)]), 1, [other]),
                         Form(1, [(((), (2,), ()), 12), (((), (1,), ()), 12), (((), (0,), ()), 3)]))
        left, right = Form(1, [((((1,),), (0,), ()), 1)]), Form(1, [(((), (0,), ((1,),)), 1)])
        self.assertEqual(form_put_into(left, 1, [other]), ahead_of(other))
        self.assertEqual(form_put_into(right, 1, [other]), behind_of(other))
        word = Form(1, [(((), (0,), ((1,), (2,))), 1)])
        self.assertEqual(form_put_into(word, 1, [OWN]), word)
        self.assertEqual(form_put_into(word, 1, [form_times(OWN, -2)]), form_times(word, -8))

    def test_no_columns(self):
        form = Form(0, [((((),), (), ((),)), 5)])
        for columns in range(4):
            self.assertEqual(form_put_into(form, columns, []), form_times(bare_form(1, 1, columns), 5))
        self.assertEqual(form_put_into(RANK, 0, [Form(0, [])]), bare_form(1, 0, 0))
        self.assertEqual(form_put_into(OWN, 0, [Form(0, [])]), Form(0, []))
        self.assertEqual(form_put_into(Form(2, []), 3, [Form(3, []), power_form(8, 3)]), Form(3, []))

    def test_what_is_passed_stays(self):
        others = [OWN]
        self.leaves(form_put_into, RANK, 1, others)
        self.assertEqual(others[0], Form(1, [(((), (1,), ()), 1)]))

    def test_each_work_has_its_bounds(self):
        last = Form(1, [((((1,),), (0,), ()), 1)])
        self.same(form_put_into(last, 1, [bare_form(6, 0)]).length, 8)
        self.too_many("letters", 8, form_put_into, last, 1, [bare_form(7, 0)])
        self.too_many("letters", 8, form_put_into, Form(1, [(((), (0,), ((1,),)), 1)]), 1, [bare_form(0, 7)])
        self.too_many("power", 8, form_put_into, Form(1, [(((), (2,), ()), 1)]), 1, [power_form(5)])
        self.same(form_put_into(Form(1, [(((), (8,), ()), 1)]), 1, [OWN]).parts(), [(((), (8,), ()), Ratio(1))])
        self.too_many("lacings", 4000, form_put_into, Form(1, [(((), (2,), ()), 1)]), 1, [bare_form(6, 0)])

    def test_what_comes_to_nothing_later_counts(self):
        form = Form(2, [(((), (2, 1), ()), 1)])
        self.too_many("power", 8, form_put_into, form, 1, [power_form(5), Form(1, [])])
        self.assertEqual(form_put_into(form, 1, [power_form(4), Form(1, [])]), Form(1, []))
        self.assertEqual(form_put_into(Form(2, [(((), (1, 2), ()), 1)]), 1, [Form(1, []), power_form(5)]), Form(1, []))

    def test_the_sequence_of_the_works_of_a_term(self):
        # With the first column the work goes beyond 8 letters when it is summed; with the second one beyond power 8.
        others = [bare_form(7, 0), power_form(5)]
        letters, power = (1, 0), (0, 2)
        for term, what in [(((letters,), power, ()), "letters"), (((power,), (0, 0), (letters,)), "power"),
                           (((letters,), (0, 0), (power,)), "letters"), (((), power, (letters,)), "power"),
                           (((letters, power), (0, 0), ()), "letters"), (((power, letters), (0, 0), ()), "power"),
                           (((), (0, 0), (letters, power)), "power"), (((), (0, 0), (power, letters)), "letters")]:
            self.too_many(what, 8, form_put_into, Form(2, [(term, 1)]), 1, others)

    def test_the_products_of_a_term_come_last(self):
        others = [bare_form(4, 0), power_form(5)]
        term = (((1, 0),), (1, 0), ())
        self.too_many("letters", 8, form_put_into, Form(2, [(term, 1)]), 1, others)
        self.too_many("power", 8, form_put_into, Form(2, [(term[:2] + (((0, 2),),), 1)]), 1, others)

    def test_column_by_column(self):
        others = [power_form(5), bare_form(6, 0)]
        self.too_many("power", 8, form_put_into, Form(2, [(((), (2, 2), ()), 1)]), 1, others)
        self.too_many("lacings", 4000, form_put_into, Form(2, [(((), (2, 2), ()), 1)]), 1, others[::-1])

    def test_terms_by_their_sequence(self):
        others = [bare_form(7, 0), power_form(5)]
        first, second = ((), (0, 2), ()), (((1, 0),), (0, 0), ())
        self.too_many("power", 8, form_put_into, Form(2, [(second, 1), (first, 1)]), 1, others)
        first, second = ((), (0, 0), ((1, 0),)), (((0, 2),), (0, 0), ())
        self.too_many("letters", 8, form_put_into, Form(2, [(second, 1), (first, 1)]), 1, others)

    def test_400_terms(self):
        letters = letters_of(3, range(8))
        many, more = [Form(3, [(((), letter, ()), 1) for letter in part]) for part in (letters[:200], letters[200:400])]
        both = Form(2, [(((), (0, 1), ()), 1), (((), (1, 0), ()), 1)])
        self.same(len(form_put_into(both, 3, [many, more]).parts()), 400)
        passed = form_plus(more, Form(3, [(((), (8, 8, 8), ()), 1)]))
        self.too_many("terms", 400, form_put_into, both, 3, [many, passed])
        # They are put together one by one: what a later term takes away again counts.
        three = Form(3, [(((), (0, 0, 1), ()), 1), (((), (0, 1, 0), ()), 1), (((), (1, 0, 0), ()), -1)])
        self.too_many("terms", 400, form_put_into, three, 3, [passed, passed, many])
        self.assertEqual(form_put_into(three, 3, [many, more, many]), more)

    def test_errors(self):
        wrong = odd_values() + [0, Ratio(1), [], [OWN, OWN], OWN, [None], [RANK, None], (), (OWN, OWN),
                                [Form(2, [])], [Form(0, [])], [[OWN]], [SQUARE]]
        self.refuses_each(form_put_into, {"form": RANK, "columns": 1, "others": [OWN]},
                          {"form": (InvalidForm, no_forms()), "columns": (InvalidColumns, no_columns()),
                           "others": (InvalidOthers, wrong)})
        self.refuses(InvalidOthers, [OWN], form_put_into, RANK, 2, [OWN])
        self.refuses(InvalidOthers, [OWN], form_put_into, Form(0, []), 1, [OWN])


class AllTablesTest(Case):
    def test_a_form_and_its_program_on_all_small_tables(self):
        form = Form(1, [((((1,),), (0,), ((2,),)), 3), (((), (1,), ((0,), (1,))), -1), ((((0,), (1,)), (2,), ()), 2)])
        program = program_of(form)
        for height in range(4):
            for table in all_tables(1, height, [0, 1, Ratio(1, 2)]):
                self.worths(results(program, table), worths_of(form, table))
        self.assertEqual(sum(worths_of(form, Table(1, [[1], [1], [1]])), Fraction(0)), 3 - 1 + 2)


if __name__ == "__main__":
    unittest.main()
