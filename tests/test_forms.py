"""Forms: points 7 and 32 to 36 of the document."""

import random
import unittest
from fractions import Fraction

from aheadsums.errors import InvalidColumns, InvalidForm, InvalidNumber, InvalidParts, InvalidTable, UnlikeColumns
from aheadsums.forms import (Form, ahead_of, behind_of, form_plus, form_product, form_times, form_total, form_turned,
                             form_worths)
from aheadsums.ratios import Ratio
from aheadsums.tables import Table, turned
from aheadsums.tallies import Tally, tally_worth
from tests.helping import (Case, LikeAll, fraction, letters_of, no_columns, no_forms, no_letters, no_numbers, no_tables,
                           no_words, odd_values, some_form, some_table, worths_of)

X = Form(1, [(((), (1,), ()), 1)])
BEFORE = Form(1, [((((1,),), (0,), ()), 1)])
LATE = Form(1, [(((), (0,), ((1,),)), 1)])
FEW = Table(1, [[2], [Ratio(1, 2)], [3]])


def of_own(letters, factor=1):
    """The form of the sums of these letters alone."""
    return Form(len(letters[0]), [(((), letter, ()), factor) for letter in letters])


def many_letters(many):
    """So many letters for three columns, none of them bare."""
    return letters_of(3, range(8))[1:many + 1]


def bare_form(left, right, number=1):
    """The form without columns of one term of so many left and right letters."""
    return Form(0, [((((),) * left, (), ((),) * right), number)])


def some_lots():
    """Two forms, a table, all of as many columns."""
    chance = random.Random(33)
    return [(some_form(chance, turn % 4, 3), some_form(chance, turn % 4, 3), some_table(chance, turn % 4, turn % 6))
            for turn in range(120)]


class MadeTest(Case):
    def test_parts_are_sorted_as_tuples(self):
        terms = [((), (0,), ()), ((), (0,), ((0,),)), ((), (0,), ((1,), (0,))), ((), (1,), ()), (((0,),), (0,), ()),
                 (((0,),), (0,), ((2,),)), (((0,), (5,)), (0,), ()), (((1,),), (0,), ()), (((1,),), (8,), ((0,),))]
        parts = [(term, Ratio(at + 1, 2)) for at, term in enumerate(terms)]
        chance = random.Random(1)
        for _ in range(10):
            mixed = list(parts)
            chance.shuffle(mixed)
            self.same(Form(1, mixed).parts(), parts)
            self.same(Form(columns=1, parts=tuple(mixed)).parts(), parts)

    def test_parts_of_like_terms_are_joined(self):
        x, y = ((), (1,), ()), (((0,),), (1,), ())
        self.same(Form(1, [(x, 1), (y, 5), (x, Ratio(1, 2)), (x, -3)]).parts(), [(x, Ratio(-3, 2)), (y, Ratio(5))])
        self.same(Form(1, [(x, 1)] * 400).parts(), [(x, Ratio(400))])

    def test_a_term_tells_its_sides_apart(self):
        terms = [((), (1,), ((1,),)), (((1,),), (1,), ()), ((), (1,), ())]
        self.same(len(Form(1, [(term, 1) for term in terms]).parts()), 3)

    def test_none_with_0(self):
        x, y = ((), (1,), ()), ((), (0,), ())
        self.same(Form(1, [(x, 0), (y, Ratio(0))]).parts(), [])
        self.same(Form(1, [(x, 1), (y, 2), (x, -1)]).parts(), [(y, Ratio(2))])
        self.same(Form(1, [(x, Ratio(1, 3)), (x, Ratio(2, -6))]).parts(), [])

    def test_length(self):
        self.same([Form(2, []).length, X.length, BEFORE.length, LATE.length], [0, 1, 2, 2])
        for left in range(8):
            for right in range(8 - left):
                self.same(bare_form(left, right).length, left + 1 + right)
        self.same(form_plus(bare_form(2, 3), bare_form(4, 0)).length, 6)
        self.same(Form(1, [(((), (1,), ()), 1), ((((1,),), (1,), ()), 1), ((((1,),), (1,), ()), -1)]).length, 1)

    def test_columns(self):
        for columns in range(4):
            letter = (8,) * columns
            term = ((letter,) * 3, letter, (letter,) * 4)
            self.same(Form(columns, []).columns, columns)
            self.same(Form(columns, [(term, 1)]).parts(), [(term, Ratio(1))])

    def test_at_most_8_letters(self):
        for left in range(9):
            for right in range(9):
                parts = [((((1,),) * left, (1,), ((1,),) * right), 1)]
                if left + right <= 7:
                    self.same(Form(1, parts).length, left + right + 1)
                else:
                    self.refuses(InvalidParts, parts, Form, 1, parts)

    def test_at_most_400_parts(self):
        letters = letters_of(3, range(8))
        self.same(len(of_own(letters[:400]).parts()), 400)
        for many in (401, 500):
            parts = [(((), letter, ()), 1) for letter in letters[:many]]
            self.refuses(InvalidParts, parts, Form, 3, parts)
        parts = [(((), (), ()), 0)] * 401
        self.refuses(InvalidParts, parts, Form, 0, parts)

    def test_what_is_told_is_new(self):
        self.is_new(Form(1, [(((), (1,), ()), 1), ((((1,),), (1,), ()), 2)]).parts)

    def test_what_was_passed_is_copied_and_stays(self):
        parts = [(((), (1,), ()), 1), (((), (0,), ()), 2), (((), (1,), ()), 3)]
        form = self.leaves(Form, 1, parts)
        parts.pop()
        parts[0] = (((), (7,), ()), 7)
        self.same(form.parts(), [(((), (0,), ()), Ratio(2)), (((), (1,), ()), Ratio(4))])

    def test_it_never_changes(self):
        for name in ("columns", "length"):
            with self.assertRaises(AttributeError):
                setattr(X, name, 1)

    def test_wrong_terms(self):
        terms = [((), letter, ()) for letter in no_letters()]
        terms += [(word, (1,), ()) for word in no_words()] + [((), (1,), word) for word in no_words()]
        terms += odd_values() + [(), ((),), ((), (1,)), ((), (1,), (), ()), [(), (1,), ()], (1,), ((1,),), ((1,), (1,)),
                                 ((), ((1,),), ()), ((1,), (1,), ()), ([], (1,), ())]
        for term in terms:
            for parts in ([(term, 1)], [(((), (1,), ()), 1), (term, 1)], ((term, 0),)):
                self.refuses(InvalidParts, parts, Form, 1, parts)

    def test_wrong_factors(self):
        term = ((), (1,), ())
        for value in no_numbers():
            for parts in ([(term, value)], [(term, 1), (((), (0,), ()), value), (term, 2)], ((term, value),)):
                self.refuses(InvalidParts, parts, Form, 1, parts)

    def test_wrong_parts(self):
        term = ((), (1,), ())
        for part in odd_values() + [0, Ratio(1), (), (term,), (term, 1, 1), [term, 1], term, (1, term)]:
            for parts in ([part], [(term, 1), part], (part, (term, 1))):
                self.refuses(InvalidParts, parts, Form, 1, parts)
        for columns in range(4):
            for others in range(4):
                for parts in ([(((), (1,) * others, ()), 1)], [((((1,) * others,), (1,) * columns, ()), 1)],
                              [(((), (1,) * columns, ((1,) * others,)), 1)]):
                    if columns != others:
                        self.refuses(InvalidParts, parts, Form, columns, parts)

    def test_errors(self):
        self.refuses_each(Form, {"columns": 1, "parts": [(((), (1,), ()), 1)]},
                          {"columns": (InvalidColumns, no_columns()),
                           "parts": (InvalidParts, odd_values() + [0, Ratio(1), [[]], [1], (((), (1,), ()), 1)])})


class EqualTest(Case):
    def test_by_columns_and_parts(self):
        x, y = ((), (1,), ()), (((2,),), (0,), ())
        self.assertIs(Form(1, [(x, 1), (y, 2)]) == Form(1, ((y, Ratio(2)), (x, 2), (x, -1))), True)
        self.assertIs(Form(1, [(x, 1), (y, 0)]) != Form(1, [(x, Ratio(3, 3))]), False)
        for other in (Form(1, []), Form(1, [(x, 2)]), Form(1, [(y, 1)]), Form(1, [(x, 1), (y, 1)]),
                      Form(2, [(((), (1, 0), ()), 1)])):
            self.assertIs(X == other, False)
            self.assertIs(X != other, True)
        self.assertIs(BEFORE == LATE, False)

    def test_nothing_of_unlike_columns(self):
        for columns in range(4):
            for others in range(4):
                self.assertIs(Form(columns, []) == Form(others, []), columns == others)

    def test_nothing_else_is_equal(self):
        for value in no_forms() + [X.parts(), 0, Tally(1, [(((1,),), 1)])]:
            for form in (X, Form(1, [])):
                self.assertIs(form == value, False)
                self.assertIs(form != value, True)
                if not isinstance(value, LikeAll) and type(value).__name__ != "Unlikeable":
                    self.assertIs(value == form, False)


class WorthsTest(Case):
    def test_against_choices_of_rows(self):
        for form, other, table in some_lots():
            self.worths(form_worths(form, table), worths_of(form, table))
            self.worths(form_worths(table=table, form=other), worths_of(other, table))

    def test_ahead_at_and_behind(self):
        self.worths(form_worths(X, FEW), [2, Fraction(1, 2), 3])
        self.worths(form_worths(BEFORE, FEW), [0, 2, Fraction(5, 2)])
        self.worths(form_worths(LATE, FEW), [Fraction(7, 2), 3, 0])
        self.worths(form_worths(Form(1, [((((1,), (2,)), (0,), ()), 1)]), FEW), [0, 0, Fraction(1, 2)])
        self.worths(form_worths(Form(1, [(((), (0,), ((2,), (1,))), 1)]), FEW), [Fraction(3, 4), 0, 0])
        self.worths(form_worths(Form(1, [((((1,),), (2,), ((1,),)), 5)]), FEW), [0, Fraction(15, 2), 0])

    def test_nothing_and_numbers(self):
        for height in (0, 1, 3, 40):
            table = Table(0, [[]] * height)
            self.worths(form_worths(Form(0, []), table), [0] * height)
            self.worths(form_worths(bare_form(0, 0, Ratio(7, 2)), table), [Fraction(7, 2)] * height)
            self.worths(form_worths(bare_form(1, 1), table), [at * (height - 1 - at) for at in range(height)])
            self.worths(form_worths(bare_form(2, 0), table), [at * (at - 1) // 2 for at in range(height)])

    def test_0_taken_0_times_is_1(self):
        self.worths(form_worths(Form(1, [(((), (0,), ()), 1)]), Table(1, [[0], [0]])), [1, 1])

    def test_many_terms_over_40_rows(self):
        form = Form(3, [(((letter, (0, 0, 0)), letter, (letter,)), 1) for letter in letters_of(3, range(8))[:400]])
        worths = form_worths(form, Table(3, [[1, 1, 1]] * 40))
        self.worths(worths, [400 * (at * (at - 1) // 2) * (39 - at) for at in range(40)])

    def test_what_is_told_is_new(self):
        self.is_new(form_worths, X, FEW)

    def test_errors(self):
        self.refuses_each(form_worths, {"form": X, "table": FEW},
                          {"form": (InvalidForm, no_forms()), "table": (InvalidTable, no_tables() + [X])})
        for columns in range(4):
            for others in range(4):
                if columns != others:
                    self.raised(UnlikeColumns, form_worths, Form(columns, []), Table(others, []))


class PlusTest(Case):
    def test_sums(self):
        for form, other, table in some_lots():
            found = form_plus(form, other)
            self.assertEqual(found, Form(form.columns, form.parts() + other.parts()))
            self.assertEqual(form_plus(other=other, form=form), found)
            self.worths(form_worths(found, table),
                        [one + two for one, two in zip(worths_of(form, table), worths_of(other, table))])

    def test_what_comes_to_0_is_left_out(self):
        self.assertEqual(form_plus(X, form_times(X, -1)), Form(1, []))
        self.assertEqual(form_plus(X, Form(1, [])), X)
        self.assertEqual(form_plus(Form(1, []), X), X)
        self.same(X.parts(), [(((), (1,), ()), Ratio(1))])

    def test_at_most_400_terms(self):
        letters = many_letters(500)
        full = of_own(letters[:400])
        self.same(len(form_plus(full, full).parts()), 400)
        self.same(len(form_plus(of_own(letters[:399]), of_own(letters[399:400])).parts()), 400)
        self.too_many("terms", 400, form_plus, full, of_own(letters[400:401]))
        self.too_many("terms", 400, form_plus, of_own(letters[400:401]), full)
        more = of_own(letters[400:500])
        self.same(len(form_plus(full, form_plus(of_own(letters[:100], -1), more)).parts()), 400)
        self.too_many("terms", 400, form_plus, full, form_plus(of_own(letters[:99], -1), more))
        self.same(form_plus(full, of_own(letters[:400], -1)).parts(), [])

    def test_errors(self):
        full = of_own(many_letters(400))
        for function in (form_plus, form_product):
            self.refuses_each(function, {"form": X, "other": X},
                              {"form": (InvalidForm, no_forms()), "other": (InvalidForm, no_forms())})
            for columns in range(4):
                for others in range(4):
                    if columns != others:
                        self.raised(UnlikeColumns, function, Form(columns, []), Form(others, []))
            self.raised(UnlikeColumns, function, full, of_own([(1,)]))
            self.refuses(InvalidForm, None, function, full, None)


class TimesTest(Case):
    def test_each_factor_times_the_number(self):
        for form, _, table in some_lots():
            for number in (0, 1, -1, 7, Ratio(0), Ratio(2, 3), Ratio(-1, 2)):
                found = form_times(form, number)
                self.assertEqual(found, Form(form.columns, [(term, factor * number) for term, factor in form.parts()]))
                self.worths(form_worths(found, table), [one * fraction(number) for one in worths_of(form, table)])
        self.assertEqual(form_times(number=3, form=X), Form(1, [(((), (1,), ()), 3)]))
        self.same(form_times(X, 0).parts(), [])
        self.same(form_times(X, 0).length, 0)
        self.same(X.parts(), [(((), (1,), ()), Ratio(1))])

    def test_errors(self):
        self.refuses_each(form_times, {"form": X, "number": Ratio(1, 2)},
                          {"form": (InvalidForm, no_forms()), "number": (InvalidNumber, no_numbers())})
        for value in no_numbers():
            self.refuses(InvalidNumber, value, form_times, Form(1, []), value)


class TurnedTest(Case):
    def test_each_term_is_turned(self):
        form = Form(1, [((((1,), (2,)), (3,), ((4,), (5,))), 1), ((((0,),), (1,), ()), 7), (((), (6,), ()), 2)])
        self.same(form_turned(form).parts(), [(((), (1,), ((0,),)), Ratio(7)), (((), (6,), ()), Ratio(2)),
                                              ((((5,), (4,)), (3,), ((2,), (1,))), Ratio(1))])
        self.assertEqual(form_turned(Form(2, [])), Form(2, []))

    def test_over_turned_tables(self):
        for form, _, table in some_lots():
            self.assertEqual(form_turned(form=form_turned(form)), form)
            self.assertEqual(form_worths(form_turned(form), table), form_worths(form, turned(table))[::-1])

    def test_errors(self):
        self.refuses_each(form_turned, {"form": X}, {"form": (InvalidForm, no_forms())})


class AheadTest(Case):
    def test_sums_over_rows_ahead(self):
        for form, _, table in some_lots():
            found = ahead_of(form)
            worths = worths_of(form, table)
            self.worths(form_worths(found, table), [sum(worths[:at], Fraction(0)) for at in range(len(worths))])
            self.assertEqual(ahead_of(form=form), found)
            self.same(found.columns, form.columns)

    def test_sums_over_rows_behind(self):
        for form, _, table in some_lots():
            found = behind_of(form)
            worths = worths_of(form, table)
            self.worths(form_worths(found, table), [sum(worths[at + 1:], Fraction(0)) for at in range(len(worths))])
            self.assertEqual(behind_of(form=form), found)
            self.assertEqual(found, form_turned(ahead_of(form_turned(form))))

    def test_cuts_and_letters_of_the_right_word(self):
        self.same(ahead_of(X).parts(), [((((1,),), (0,), ()), Ratio(1))])
        self.same(ahead_of(BEFORE).parts(), [((((1,), (0,)), (0,), ()), Ratio(1))])
        form = Form(1, [((((1,),), (2,), ((3,), (4,))), 5)])
        self.same(ahead_of(form).parts(), [
            ((((1,), (2,)), (0,), ((3,), (4,))), Ratio(5)), ((((1,), (2,)), (3,), ((4,),)), Ratio(5)),
            ((((1,), (2,), (3,)), (0,), ((4,),)), Ratio(5)), ((((1,), (2,), (3,)), (4,), ()), Ratio(5)),
            ((((1,), (2,), (3,), (4,)), (0,), ()), Ratio(5))])
        form = Form(1, [((((1,), (2,)), (3,), ((4,),)), 5)])
        self.same(behind_of(form).parts(), [
            (((), (0,), ((1,), (2,), (3,), (4,))), Ratio(5)), (((), (1,), ((2,), (3,), (4,))), Ratio(5)),
            ((((1,),), (0,), ((2,), (3,), (4,))), Ratio(5)), ((((1,),), (2,), ((3,), (4,))), Ratio(5)),
            ((((1,), (2,)), (0,), ((3,), (4,))), Ratio(5))])

    def test_bare_letters(self):
        self.same(ahead_of(Form(2, [(((), (0, 0), ((0, 0),)), 1)])).parts(), [
            ((((0, 0),), (0, 0), ()), Ratio(1)), ((((0, 0),), (0, 0), ((0, 0),)), Ratio(1)),
            ((((0, 0), (0, 0)), (0, 0), ()), Ratio(1))])
        rank = ahead_of(ahead_of(bare_form(0, 0)))
        self.same(rank.parts(), [((((), ()), (), ()), Ratio(1))])
        self.worths(form_worths(rank, Table(0, [[]] * 6)), [0, 0, 1, 3, 6, 10])

    def test_parts_are_joined(self):
        form = Form(1, [(((), (1,), ((0,),)), 1), ((((1,),), (0,), ()), -1)])
        self.same(ahead_of(form).parts(), [((((1,),), (0,), ()), Ratio(1)), ((((1,),), (0,), ((0,),)), Ratio(1))])

    def test_nothing(self):
        for columns in range(4):
            self.assertEqual(ahead_of(Form(columns, [])), Form(columns, []))
            self.assertEqual(behind_of(Form(columns, [])), Form(columns, []))

    def test_8_letters(self):
        for left in range(8):
            for right in range(8 - left):
                form = bare_form(left, right)
                for function in (ahead_of, behind_of):
                    if left + right < 7:
                        self.same(function(form).length, left + right + 2)
                    else:
                        self.too_many("letters", 8, function, form)
                        self.too_many("letters", 8, function, form_plus(form, bare_form(0, 0)))

    def test_400_terms(self):
        bare, letters = (0, 0, 0), many_letters(200)
        three = [(((), letter, (bare,)), 1) for letter in letters]
        one = [(((), letter, ()), 1) for letter in letters[::-1]]
        kept, passed = Form(3, three[:133] + one[:1]), Form(3, three[:133] + one[:2])
        self.same(len(ahead_of(kept).parts()), 400)
        self.same(len(behind_of(form_turned(kept)).parts()), 400)
        self.too_many("terms", 400, ahead_of, passed)
        self.too_many("terms", 400, behind_of, form_turned(passed))
        long = [(((), letter, (bare,) * 7), 1) for letter in letters]
        self.too_many("letters", 8, ahead_of, Form(3, three[:133] + long))
        # Parts that come to 0 together do not count.
        less = [(((letter,), bare, ()), -1) for letter in letters]
        self.same(len(ahead_of(Form(3, three[:160] + less[:160])).parts()), 320)
        self.too_many("terms", 400, ahead_of, Form(3, three[:160] + less[:79]))
        self.same(len(ahead_of(Form(3, three[:160] + less[:80])).parts()), 400)

    def test_errors(self):
        for function in (ahead_of, behind_of):
            self.refuses_each(function, {"form": X}, {"form": (InvalidForm, no_forms())})


class TotalTest(Case):
    def test_sums_over_all_rows(self):
        for form, _, table in some_lots():
            found = form_total(form)
            self.assertIsInstance(found, Tally)
            self.same(found.columns, form.columns)
            self.worth(tally_worth(found, table), sum(worths_of(form, table), Fraction(0)))
            self.assertEqual(form_total(form=form), found)

    def test_words(self):
        form = Form(1, [((((1,), (2,)), (3,), ((4,),)), 5), (((), (1,), ()), 2)])
        self.same(form_total(form).parts(), [(((1,),), Ratio(2)), (((1,), (2,), (3,), (4,)), Ratio(5))])
        self.assertEqual(form_total(Form(2, [])), Tally(2, []))

    def test_terms_of_one_word_are_joined(self):
        form = Form(1, [((((1,),), (2,), ()), 3), (((), (1,), ((2,),)), 4), ((((5,),), (6,), ()), 1),
                        (((), (5,), ((6,),)), -1)])
        self.same(form_total(form).parts(), [(((1,), (2,)), Ratio(7))])

    def test_errors(self):
        self.refuses_each(form_total, {"form": X}, {"form": (InvalidForm, no_forms())})


class ProductTest(Case):
    def test_they_come_to_the_product(self):
        for form, other, table in some_lots():
            found = form_product(form, other)
            self.worths(form_worths(found, table),
                        [one * two for one, two in zip(worths_of(form, table), worths_of(other, table))])
            self.assertEqual(form_product(other=form, form=other), found)
            self.same(found.columns, form.columns)

    def test_parts(self):
        self.same(form_product(X, X).parts(), [(((), (2,), ()), Ratio(1))])
        self.same(form_product(BEFORE, BEFORE).parts(), [((((1,), (1,)), (0,), ()), Ratio(2)),
                                                         ((((2,),), (0,), ()), Ratio(1))])
        self.same(form_product(BEFORE, LATE).parts(), [((((1,),), (0,), ((1,),)), Ratio(1))])
        first, second = Form(1, [((((1,),), (2,), ((3,),)), 2)]), Form(1, [((((4,),), (5,), ()), Ratio(1, 2))])
        self.same(form_product(first, second).parts(), [
            ((((1,), (4,)), (7,), ((3,),)), Ratio(1)), ((((4,), (1,)), (7,), ((3,),)), Ratio(1)),
            ((((5,),), (7,), ((3,),)), Ratio(1))])

    def test_both_sides_are_laced(self):
        form = bare_form(1, 1)
        wanted = {(left, right): Ratio((2 if left == 2 else 1) * (2 if right == 2 else 1))
                  for left in (1, 2) for right in (1, 2)}
        found = {(len(left), len(right)): factor for (left, _, right), factor in form_product(form, form).parts()}
        self.assertEqual(found, wanted)

    def test_nothing_and_one(self):
        for form in (X, BEFORE, Form(1, [((((1,),) * 3, (1,), ((1,),) * 4), 1)]), Form(1, [])):
            one = Form(1, [(((), (0,), ()), 1)])
            self.assertEqual(form_product(form, one), form)
            self.assertEqual(form_product(one, form), form)
            self.assertEqual(form_product(form, Form(1, [])), Form(1, []))
            self.assertEqual(form_product(Form(1, []), form), Form(1, []))

    def test_what_is_passed_stays(self):
        form_product(X, BEFORE)
        self.same([X.parts(), BEFORE.parts()], [[(((), (1,), ()), Ratio(1))], [((((1,),), (0,), ()), Ratio(1))]])


class BoundsTest(Case):
    """Point 36, each bound of products just kept and just passed, and their sequence."""

    def with_ways(self, side, three, one):
        """A form of so many terms that are laced with that of `fours` in 129 ways each, and in 1 way each."""
        words = [tuple((power,) if place == at else (0,) for place in range(3))
                 for power in range(1, 9) for at in range(3)] + [((0,),) * 3]
        terms = [(word, (own,), ()) for own in range(9) for word in words][:three]
        terms += [((), (own,), ()) for own in range(one)]
        form = Form(1, [(term, 1) for term in terms])
        return form if side == "ahead" else form_turned(form)

    def fours(self, side):
        form = Form(1, [((((0,),) * 4, (0,), ()), 1)])
        return form if side == "ahead" else form_turned(form)

    def test_4000_lacings(self):
        table = Table(1, [[2], [3], [-1], [Ratio(1, 2)], [1], [1]])
        for side in ("ahead", "behind"):
            other = self.fours(side)
            kept, passed = self.with_ways(side, 31, 1), self.with_ways(side, 31, 2)
            wanted = [one * two for one, two in zip(worths_of(kept, table), worths_of(other, table))]
            for found in (form_product(kept, other), form_product(other, kept)):
                self.worths(form_worths(found, table), wanted)
            self.too_many("lacings", 4000, form_product, passed, other)
            self.too_many("lacings", 4000, form_product, other, passed)

    def test_ways_of_both_sides_are_multiplied(self):
        # 63 times 63 ways are 3969, and 129 times 63 are 8127.
        self.too_many("letters", 8, form_product, bare_form(3, 3), bare_form(3, 3))
        self.too_many("lacings", 4000, form_product, bare_form(4, 3), bare_form(3, 3))
        self.too_many("lacings", 4000, form_product, bare_form(3, 3), bare_form(3, 4))
        self.too_many("letters", 8, form_product, form_plus(bare_form(3, 3), Form(0, [])), bare_form(3, 3))
        self.same(form_product(bare_form(2, 2), bare_form(2, 1)).length, 8)

    def test_many_pairs(self):
        full = of_own(many_letters(400))
        self.too_many("lacings", 4000, form_product, full, full)
        self.too_many("lacings", 4000, form_product, full, of_own(many_letters(11)))
        self.same(len(form_product(full, of_own([(0, 0, 0)])).parts()), 400)

    def test_8_letters(self):
        for one in range(8):
            for other in range(8):
                for turned_about in (False, True):
                    first, second = bare_form(one, 0), bare_form(other, 0)
                    if turned_about:
                        first, second = form_turned(first), form_turned(second)
                    if one + other <= 7:
                        self.same(form_product(first, second).length, one + other + 1)
                    elif one + other == 8:
                        self.too_many("letters", 8, form_product, first, second)
        self.same(form_product(bare_form(4, 0), bare_form(0, 3)).length, 8)
        self.too_many("letters", 8, form_product, bare_form(4, 0), bare_form(0, 4))
        self.too_many("letters", 8, form_product, form_plus(bare_form(0, 0), bare_form(4, 0)), bare_form(4, 0))

    def test_power_8(self):
        for one in range(9):
            for other in range(9):
                pairs = [(of_own([(1, one)]), of_own([(2, other)]))]
                for its, more in [((0, one), (1, other)), ((one, 0), (other, 1))]:
                    pairs.append((Form(2, [(((its,), (0, 0), ()), 1)]), Form(2, [(((more,), (0, 0), ()), 1)])))
                    pairs.append((Form(2, [(((), (0, 0), (its,)), 1)]), Form(2, [(((), (0, 0), (more,)), 1)])))
                for first, second in pairs:
                    if one + other <= 8:
                        form_product(first, second)
                    else:
                        self.too_many("power", 8, form_product, first, second)
        # The letters of unlike places are not multiplied.
        self.same(len(form_product(of_own([(8,)]), Form(1, [((((8,),), (0,), ((8,),)), 1)])).parts()), 1)
        left, right = Form(1, [((((8,),), (0,), ()), 1)]), Form(1, [(((), (0,), ((8,),)), 1)])
        self.same(form_product(left, right).parts(), [((((8,),), (0,), ((8,),)), Ratio(1))])

    def test_400_terms(self):
        lone, letters = Form(3, [((((1, 0, 0),), (0, 0, 0), ()), 1)]), many_letters(300)
        kept = Form(3, [((((0, 1, 0),), letter, ()), 1) for letter in letters[:133]] + [(((), letters[200], ()), 1)])
        passed = Form(3, kept.parts() + [(((), letters[201], ()), 1)])
        self.same(len(form_product(lone, kept).parts()), 400)
        self.same(len(form_product(kept, lone).parts()), 400)
        self.too_many("terms", 400, form_product, lone, passed)
        self.too_many("terms", 400, form_product, passed, lone)

    def test_terms_are_counted_as_they_would_be_told(self):
        first = Form(2, [((((power, 0),), (0, 0), ()), 1) for power in range(5)])
        second = Form(2, [((((0, power),), (0, 0), ()), 1) for power in range(1, 5)])
        for letter in letters_of(2, range(1, 4)):
            first = form_plus(first, Form(2, [(((letter,), (0, 0), ()), 1)]))
        less = form_plus(first, form_times(second, -1))
        found = form_product(form_plus(first, second), less)
        self.assertLessEqual(len(found.parts()), 400)
        self.assertEqual(found, form_plus(form_product(first, first), form_times(form_product(second, second), -1)))

    def test_their_sequence(self):
        long, great = Form(1, [((((8,),) * 7, (8,), ()), 1)]), Form(1, [((((8,),), (8,), ()), 1)])
        self.too_many("lacings", 4000, form_product, long, long)
        self.too_many("letters", 8, form_product, long, great)
        self.too_many("power", 8, form_product, great, great)
        letters = [letter for letter in letters_of(3, range(9)) if letter[0] > 0]
        ahead = [((letter,), (0, 0, 0), ()) for letter in letters[:200]]
        self.too_many("power", 8, form_product, Form(3, [((((8, 0, 0),), (0, 0, 0), ()), 1)]),
                      Form(3, [(term, 1) for term in ahead]))
        self.too_many("lacings", 4000, form_product, of_own(letters[:30]), of_own(letters[:200]))
        longer = Form(3, [((((0, 0, 0),) * 6, letter, ()), 1) for letter in letters[:30]])
        self.too_many("letters", 8, form_product, longer, Form(3, [((((1, 0, 0), (0, 1, 0)), (0, 0, 0), ()), 1)]))


if __name__ == "__main__":
    unittest.main()
